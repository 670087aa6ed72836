import PyProof.Rows.All
import Wide.All
import OpenK.AllK
import Wide.FinOn
import Lean
import PyProof.EqAt
import PyProof.EqKinds
import PyProof.TupleCall
import PyProof.NeKinds
import PyProof.NsDelKeeps
import PyProof.ExcArgs
import PyProof.ExcAttrAll.ValueError
import PyProof.Rows.SortRunsK
import PyProof.CompUse
import PyProof.TupleOfSeq
import PyProof.CollectIter
import KE.KRevIter
import PyProof.DictFindH
import PyProof.Walk
import PyProof.DictWalks
import PySem.Challenge.RW_selfsight_k19_whole_back_again
set_option maxHeartbeats 4000000
set_option linter.all false
set_option maxRecDepth 100000
set_option Elab.async false
local macro_rules
 |`(tactic|trivial)=>`(tactic|exact Or.inr (Or.inr rfl))
local macro_rules
 |`(tactic|trivial)=>`(tactic|exact Or.inr (Or.inl rfl))
local macro_rules
 |`(tactic|trivial)=>`(tactic|exact Or.inr rfl)
local macro_rules
 |`(tactic|trivial)=>`(tactic|exact Or.inl rfl)
namespace L2
open PySem PySem.Spec PyProof.Rows
abbrev Yo:=Sum Int Str
def Tx:Yo->Value->Bool
 |.inl k,v=>Value.isInt k v
 |.inr x,v=>Value.isStrOf x v
def Zli (w:World):Yo->Int
 |.inl k=>hashInt k
 |.inr x=>hashStr w x
def Yp:∀{k:Yo}{v:Value},Tx k v=true->(∃i t,k=Sum.inl i/\v=Value.int i t)\/(∃x t,k=Sum.inr x/\v=Value.str x t)
 |.inl i,v,h=>by
  obtain⟨t,e⟩:=Value.isInt_shape (k:=i) (v:=v) h
  exact .inl ⟨i,t,rfl,e⟩
 |.inr x,v,h=>by
  obtain⟨t,e⟩:=Value.isStrOf_shape (x:=x) (v:=v) h
  exact .inr ⟨x,t,rfl,e⟩
def Hu (i:Int)(t:Tok):Tx (.inl i) (.int i t)=true:=by simp[Tx,Value.isInt]
def Hv (x:Str)(t:Tok):Tx (.inr x) (.str x t)=true:=by simp[Tx,Value.isStrOf]
def Zgo (a b:Int):decide ((Sum.inl a:Yo)=Sum.inl b)=(a==b):=by
 by_cases e:a=b
 ·subst e;simp
 ·have h:¬(Sum.inl a:Yo)=Sum.inl b:=fun q=>e (Sum.inl.inj q)
  rw[decide_eq_false h]
  exact(beq_eq_false_iff_ne.mpr e).symm
def Zgp (a b:Str):decide ((Sum.inr a:Yo)=Sum.inr b)=decide (a=b):=by
 by_cases e:a=b
 ·subst e;simp
 ·have h:¬(Sum.inr a:Yo)=Sum.inr b:=fun q=>e (Sum.inr.inj q)
  rw[decide_eq_false h,decide_eq_false e]
def Zgq (a:Int)(b:Str):decide ((Sum.inl a:Yo)=Sum.inr b)=false:=decide_eq_false (fun q=>nomatch q)
def Zgr (a:Str)(b:Int):decide ((Sum.inr a:Yo)=Sum.inl b)=false:=decide_eq_false (fun q=>nomatch q)
def Y5 (prog:Program)(w:World):PySem.KeyKind prog w Yo where
 is:=Tx
 hash:=Zli w
 inj:=fun v a b ha hb=>by
  rcases Yp ha with⟨i,t,rfl,rfl⟩|⟨x,t,rfl,rfl⟩
  ·rcases Yp hb with⟨j,u,rfl,e⟩|⟨y,u,rfl,e⟩
   ·injection e with e1 _;rw[e1]
   ·exact nomatch e
  ·rcases Yp hb with⟨j,u,rfl,e⟩|⟨y,u,rfl,e⟩
   ·exact nomatch e
   ·injection e with e1 _;rw[e1]
 byValue:=fun k v h=>by
  rcases Yp h with⟨i,t,rfl,rfl⟩|⟨x,t,rfl,rfl⟩<;>rfl
 pyHash:=fun hv h=>by
  rcases Yp hv with⟨i,t,rfl,rfl⟩|⟨x,t,rfl,rfl⟩
  ·exact wpAny_pyHash_int h
  ·exact wpAny_pyHash_str h
 eqBool:=fun hu hv h=>by
  rcases Yp hu with⟨i,t,rfl,rfl⟩|⟨x,t,rfl,rfl⟩
  ·rcases Yp hv with⟨j,u,rfl,rfl⟩|⟨y,u,rfl,rfl⟩
   ·rw[Zgo] at h;exact wpAny_eqBool_int h
   ·rw[Zgq] at h;exact SeqAt.EqAt.int_str i t y u _ _ _ _ h
  ·rcases Yp hv with⟨j,u,rfl,rfl⟩|⟨y,u,rfl,rfl⟩
   ·rw[Zgr] at h;exact SeqAt.EqAt.str_int x t j u _ _ _ _ h
   ·rw[Zgp] at h;exact wpAny_eqBool_str h
 «strs»:=fun k x t v h=>by
  rcases Yp h with⟨i,u,rfl,e⟩|⟨y,u,rfl,e⟩
  ·exact nomatch e
  ·injection e with e1 _
   subst e1
   cases v<;>rfl
def B3 (prog:Program)(w:World)(i:Int)(t:Tok):(Y5 prog w).is (.inl i) (.int i t)=true:=Hu i t
def B4 (prog:Program)(w:World)(x:Str)(t:Tok):(Y5 prog w).is (.inr x) (.str x t)=true:=Hv x t
inductive V where
 |non|bl (b:Bool)|int (i:Int)|str (x:Str)|byt (b:Array UInt8)|flt (b:UInt64)|ref (a:Addr)|ty (n:String)
 deriving DecidableEq
def RelV:V->Value->Prop
 |.non,u=>u=Value.none
 |.bl b,u=>u=Value.bool b
 |.int i,u=>∃t,u=Value.int i t
 |.str x,u=>∃t,u=Value.str x t
 |.byt b,u=>∃t,u=Value.bytes b t
 |.flt b,u=>∃t,u=Value.float b t
 |.ref a,u=>u=Value.ref a
 |.ty n,u=>u=Value.type n
abbrev Vals:List V->List Value->Prop:=Paired RelV
theorem Vals.length {xs:List V}{us:List Value}(r:Vals xs us):xs.length=us.length:=Paired.length r
theorem Vals.get:∀{xs:List V}{us:List Value}{i:Nat}{x:V},Vals xs us->xs[i]?=some x->∃u,us[i]?=some u/\RelV x u
 |_,_,_,_,.nil,e=>by simp at e
 |_,_,0,_,.cons r _,e=>by simp at e;subst e;exact⟨_,rfl,r⟩
 |_,_,i+1,x,.cons _ t,e=>by
  obtain⟨u,h1,h2⟩:=Vals.get (i:=i) (x:=x) t (by simpa using e)
  exact⟨u,by simpa using h1,h2⟩
theorem Vals.append:∀{xs ys:List V}{us ws:List Value},Vals xs us->Vals ys ws->Vals (xs++ys) (us++ws)
 |_,_,_,_,.nil,s=>s
 |_,_,_,_,.cons r t,s=>.cons r (Vals.append t s)
theorem Vals.take:∀{xs:List V}{us:List Value} (n:Nat),Vals xs us->Vals (xs.take n) (us.take n)
 |_,_,0,_=>.nil
 |_,_,_+1,.nil=>.nil
 |_,_,n+1,.cons r t=>.cons r (Vals.take n t)
theorem Vals.drop:∀{xs:List V}{us:List Value} (n:Nat),Vals xs us->Vals (xs.drop n) (us.drop n)
 |_,_,0,r=>r
 |_,_,_+1,.nil=>.nil
 |_,_,n+1,.cons _ t=>Vals.drop n t
def Vals.none_of:∀{xs:List V}{us:List Value}{i:Nat},Vals xs us->xs[i]?=none->us[i]?=none:=fun {xs us i} r e=>by
 have h1:=r.length
 have h2:xs.length<=i:=List.getElem?_eq_none_iff.mp e
 exact List.getElem?_eq_none_iff.mpr (by omega)
def RelO:Option V->Option Value->Prop
 |some v,some u=>RelV v u
 |none,none=>True
 |_,_=>False
def KV {κ:Type}:List (κ×V)->List (κ×Value)->Prop:=Paired fun(p:κ×V) (q:κ×Value)=>p.1=q.1/\RelV p.2 q.2
def kV:Yo->V
 |.inl i=>.int i
 |.inr x=>.str x
inductive HO where
 |lst (xs:List V)
 |tup (xs:List V)
 |dK (kvs:List (Yo×V))|dT (kvs:List (List Yo×V))
 |set (S:Int->Bool) (n:Nat)
 |ins (C dx:Addr) (fs:List (Str×V))
 |own (x:Addr)
 |xd (fs:List (Str×V))
 |met (f x:Addr)
 |rng (lo hi:Int)
 |frz (o:Obj) (u:HO)
 |tbl (l c:Value) (q:Str)
 |ext (φ:Heap->Prop)
abbrev Hp:=Addr->Option HO
def upd (H:Hp)(a:Addr)(o:HO):Hp:=fun b=>if b=a then some o else H b
def Zu {H:Hp}{a:Addr}{o:HO}:upd H a o a=some o:=by unfold upd;rw[if_pos rfl]
def Zn {H:Hp}{a b:Addr}{o:HO}(h:b≠a):upd H a o b=H b:=by unfold upd;rw[if_neg h]
def Zfv {H:Hp}{a b:Addr}{o u:HO}(h:H a=some o)(h':H b=some u)(d:o≠u):a≠b:=by
 intro e;subst e;rw[h] at h';exact d (Option.some.inj h')
def Z3 {H:Hp}{a b:Addr}{o:HO}(h:H a=some o)(h':H b=none):a≠b:=by
 intro e;subst e;rw[h] at h';cases h'
section
variable (P:Program) (w:World)
def ObjOk (H:Hp)(h:Heap)(a:Addr):HO->Prop
 |.lst xs=>xs.length<=sizeLine/\∃(its:List Value) (n:Nat),Vals xs its/\h.get? a=some {cls:=.type "list", data:=.seq its.toArray n}
 |.tup xs=>xs.length<=sizeLine/\∃its:List Value,Vals xs its/\IsTup h a its.toArray
 |.dK kvs=>kvs.length<=sizeLine/\(a==sysModules)=false/\∃vs,KV kvs vs/\h.DictOf (Y5 P w) a vs
 |.dT kvs=>kvs.length<=sizeLine/\(a==sysModules)=false/\∃xs:List (List Yo×Addr×Value),
   Paired (fun(p:List Yo×V) (q:List Yo×Addr×Value)=>p.1=q.1/\H q.2.1=some (.tup (p.1.map kV))/\RelV p.2 q.2.2) kvs xs /\
   ∃o es ep,h.get? a=some o/\o.ExactDict/\o.data=.dict es ep/\es.toList=xs.map (entryOfKey (tupleKind (Y5 P w)))/\(xs.map (·.1)).Nodup
 |.set S n=>h.SetOf (intKind P w) a S n
 |.ins C dx fs=>H dx=some (.own a)/\fs.length<=1000/\dx≠a/\h.get? a=some (PySem.W.instObj C dx) /\
   ∃mA,h.Ns1 dx mA/\(∀f,RelO (fs.lookup f) (mA f))/\PySem.Within mA (fs.map (·.1))
 |.own _=>∃o,h.get? a=some o
 |.xd fs=>∃mA,h.Ns1 a mA/\∀f,RelO (fs.lookup f) (mA f)
 |.rng lo hi=>∃t u v,h.get? a=some {cls:=.type "range", data:=.fields #[.int lo t,.int hi u,.int 1 v]}
 |.frz o u=>h.get? a=some o/\ObjOk H h a u
 |.tbl l c q=>∃ps:Array Value,h.get? a=some {cls:=.none,data:=.fields ps}/\(ps=#[]\/∃(b:Addr) (ob:Obj) (vs:Array Value) (t:Tok),ps=#[l,c,.ref b]/\H b=some (.frz ob (.own 0))/\ob.data=.fields vs/\vs[1]?=some (.str q t))
 |.met f x=>h.get? a=some (PySem.W.methodObj (.ref f) (.ref x))
 |.ext φ=>φ h/\(∃o,h.get? a=some o)/\∀h1 h2:Heap,φ h1->(∀o,h1.get? a=some o->h2.get? a=some o)->φ h2
def HOk (H:Hp)(h:Heap):Prop:=∀a o,H a=some o->ObjOk P w H h a o
end
section
variable {P:Program}{w:World}{H H':Hp}{h h':Heap}{a:Addr}{o:HO}
theorem ObjOk.lt (x:ObjOk P w H h a o):a<h.objs.size:=by
 cases o with
 |lst xs=>obtain⟨_,_,_,_,e⟩:=x;exact Heap.lt_size e
 |tup xs=>obtain⟨_,_,_,p⟩:=x;exact p.lt
 |dK kvs=>obtain⟨_,_,_,_,o,_,_,e,_⟩:=x;exact Heap.lt_size e
 |dT kvs=>obtain⟨_,_,_,_,o,_,_,e,_⟩:=x;exact Heap.lt_size e
 |set S n=>obtain⟨o,_,_,_,e,_⟩:=x;exact Heap.lt_size e
 |ins C dx fs=>obtain⟨_,_,_,e,_⟩:=x;exact Heap.lt_size e
 |own y=>obtain⟨_,e⟩:=x;exact Heap.lt_size e
 |xd fs=>obtain⟨_,⟨_,_,_,e,_⟩,_⟩:=x;exact Heap.lt_size e
 |rng lo hi=>obtain⟨_,_,_,e⟩:=x;exact Heap.lt_size e
 |frz ob u=>obtain⟨e,_⟩:=x;exact Heap.lt_size e
 |tbl l c q=>obtain⟨_,e,_⟩:=x;exact Heap.lt_size e
 |met f y=>exact Heap.lt_size (show h.get? a=some _ from x)
 |ext φ=>obtain⟨_,⟨_,e⟩,_⟩:=x;exact Heap.lt_size e
theorem Paired.mapP {α β:Type}{F G:α->β->Prop}:∀{l₁:List α}{l₂:List β},Paired F l₁ l₂->(∀a b,F a b->G a b)->Paired G l₁ l₂
 |_,_,.nil,_=>.nil
 |_,_,.cons r t,f=>.cons (f _ _ r) (Paired.mapP t f)
def ObjOk.stay (x:ObjOk P w H h a o)(k:∀b u,(b=a\/H b=some (.own a))->h.get? b=some u->h'.get? b=some u)(ho:∀b,H b=some (.own a)->H' b=some (.own a))(ht:∀b xs,H b=some (.tup xs)->H' b=some (.tup xs))(hz:∀b o u,H b=some (.frz o u)->H' b=some (.frz o u)):ObjOk P w H' h' a o:=by
 induction o with
 |lst xs=>obtain⟨z,its,n,r,e⟩:=x;exact⟨z,its,n,r,k _ _ (.inl rfl) e⟩
 |tup xs=>obtain⟨z,its,r,ob,e,c⟩:=x;exact⟨z,its,r,ob,k _ _ (.inl rfl) e,c⟩
 |dK kvs=>obtain⟨z,y,vs,r,ob,es,ep,e,c⟩:=x;exact⟨z,y,vs,r,ob,es,ep,k _ _ (.inl rfl) e,c⟩
 |dT kvs=>
  obtain⟨z,y,xs,r,ob,es,ep,e,c⟩:=x
  exact⟨z,y,xs,Paired.mapP r fun p q z=>⟨z.1,ht _ _ z.2.1,z.2.2⟩,ob,es,ep,k _ _ (.inl rfl) e,c⟩
 |set S n=>obtain⟨ob,es,ep,t,e,c⟩:=x;exact⟨ob,es,ep,t,k _ _ (.inl rfl) e,c⟩
 |ins C dx fs=>
  obtain⟨d,z,ne,e,mA,⟨od,es,ep,e2,c⟩,r⟩:=x
  exact⟨ho _ d,z,ne,k _ _ (.inl rfl) e,mA,⟨od,es,ep,k _ _ (.inr d) e2,c⟩,r⟩
 |own y=>obtain⟨ob,e⟩:=x;exact⟨ob,k _ _ (.inl rfl) e⟩
 |xd fs=>obtain⟨mA,⟨od,es,ep,e,c⟩,r⟩:=x;exact⟨mA,⟨od,es,ep,k _ _ (.inl rfl) e,c⟩,r⟩
 |rng lo hi=>obtain⟨t,u,v,e⟩:=x;exact⟨t,u,v,k _ _ (.inl rfl) e⟩
 |frz ob u ih=>obtain⟨e,q⟩:=x;exact⟨k _ _ (.inl rfl) e,ih q⟩
 |tbl l c q=>
  obtain⟨ps,e,r⟩:=x
  refine⟨ps,k a _ (.inl rfl) e,?_⟩
  rcases r with r|⟨b,ob,vs,t,r1,r2,r3⟩
  ·exact .inl r
  ·exact .inr ⟨b,ob,vs,t,r1,hz _ _ _ r2,r3⟩
 |met f y=>
  have e:h.get? a=some (PySem.W.methodObj (.ref f) (.ref y)):=x
  show h'.get? a=some (PySem.W.methodObj (.ref f) (.ref y))
  exact k a _ (.inl rfl) e
 |ext φ=>obtain⟨p,⟨o,e⟩,st⟩:=x;exact⟨st _ _ p fun o q=>k _ _ (.inl rfl) q,⟨o,k _ _ (.inl rfl) e⟩,st⟩
theorem HOk.lt (x:HOk P w H h)(e:H a=some o):a<h.objs.size:=(x a o e).lt
def HOk.fresh (x:HOk P w H h)(e:h.objs.size<=a):H a=none:=by
 cases q:H a with
 |none=>rfl
 |some u=>exact absurd (Nat.lt_of_lt_of_le (x.lt q) e) (Nat.lt_irrefl _)
def HOk.kept (x:HOk P w H h)(k:∀b u,h.get? b=some u->h'.get? b=some u):HOk P w H h':=fun a o e=>
 (x a o e).stay (fun b u _ q=>k b u q) (fun _ q=>q) (fun _ _ q=>q) fun _ _ _ q=>q
def HOk.laid (x:HOk P w H h)(k:∀b u,h.get? b=some u->h'.get? b=some u)(hp:h.objs.size<=a)(new:ObjOk P w (upd H a o) h' a o):HOk P w (upd H a o) h':=fun b u e=>by
 have hn:=x.fresh hp
 by_cases hb:b=a
 ·subst hb;rw[Zu] at e;cases e;exact new
 ·rw[Zn hb] at e
  exact(x b u e).stay (fun c v _ q=>k c v q) (fun c q=>by rw[Zn (Z3 q hn)];exact q) (fun c xs q=>by rw[Zn (Z3 q hn)];exact q) fun c _ _ q=>by rw[Zn (Z3 q hn)];exact q
end
def Rd (H:Hp)(a:Addr)(u:HO):Prop:=H a=some u\/∃o,H a=some (.frz o u)
def Rd.ok {P:Program}{w:World}{H:Hp}{h:Heap}{a:Addr}{u:HO}(r:Rd H a u)(x:HOk P w H h):ObjOk P w H h a u:=by
 rcases r with r|⟨o,r⟩
 ·exact x a u r
 ·obtain⟨_,q⟩:=x a _ r
  exact q
def Zjd:Option HO->Prop
 |some (.lst _)=>True
 |some (.dK _)=>True
 |some (.dT _)=>True
 |some (.set _ _)=>True
 |some (.ins _ _ _)=>True
 |some (.ext _)=>True
 |_=>False
section
variable {P:Program}{w:World}{H:Hp}{h h':Heap}{x e:Addr}{o':HO}
def HOk.write (ok:HOk P w H h)(mu:Zjd (H x))(he:e=x\/H e=some (.own x))(k:∀b u,b≠e->h.get? b=some u->h'.get? b=some u)(heo:∃u,h'.get? e=some u)(new:ObjOk P w (upd H x o') h' x o'):HOk P w (upd H x o') h':=fun b u q=>by
 have nown:∀c y,H c=some (.own y)->c≠x:=fun c y r z=>by subst z;rw[r] at mu;exact mu
 have ntup:∀c xs,H c=some (.tup xs)->c≠x:=fun c xs r z=>by subst z;rw[r] at mu;exact mu
 have nfrz:∀c o u,H c=some (.frz o u)->c≠x:=fun c o u r z=>by subst z;rw[r] at mu;exact mu
 by_cases hb:b=x
 ·subst hb;rw[Zu] at q;cases q;exact new
 ·rw[Zn hb] at q
  by_cases hbe:b=e
  ·have q':H b=some (.own x):=by
    rcases he with z|z
    ·exact absurd (hbe.trans z) hb
    ·rw[hbe];exact z
   rw[q] at q';cases q'
   obtain⟨v,hv⟩:=heo
   exact⟨v,by rw[hbe];exact hv⟩
  ·refine(ok b u q).stay (fun c v hc r=>k c v ?_ r) (fun c r=>by rw[Zn (nown c b r)];exact r) (fun c xs r=>by rw[Zn (ntup c xs r)];exact r) fun c o u r=>by rw[Zn (nfrz c o u r)];exact r
   rcases hc with rfl|hc
   ·exact hbe
   ·rintro rfl
    rcases he with z|z
    ·exact nown c b hc z
    ·rw[hc] at z;cases z;exact hb rfl
end
structure Un (fs ex:List Addr) (H H':Hp) (h h':Heap):Prop where
 keep:∀b o,h.get? b=some o->H b=none->b ∉ fs->b ∉ ex->h'.get? b=some o
 slot:∀b o,h.get? b=some o->H b=none->b∈fs->b ∉ ex->∃sl,h'.get? b=some {o with slots:=sl}
 free:∀b o,h.get? b=some o->H b=none->b ∉ ex->H' b=none
 there:∀b o,h.get? b=some o->b ∉ ex->∃o',h'.get? b=some o'
 tups:∀b xs,H b=some (.tup xs)->H' b=some (.tup xs)
 frzs:∀b o u,H b=some (.frz o u)->H' b=some (.frz o u)
 tbls:∀b l c q,H b=some (.tbl l c q)->H' b=some (.tbl l c q)
section
variable {fs fs' ex ex':List Addr}{H H1 H2:Hp}{h h1 h2 h':Heap}{a x e:Addr}{o:HO}
def Un.any (u:Un fs ex H H1 h h1){b:Addr}{ob:Obj}(q:h.get? b=some ob)(n:H b=none)(hx:b ∉ ex):∃sl,h1.get? b=some {ob with slots:=sl}:=by
 by_cases hb:b∈fs
 ·exact u.slot b ob q n hb hx
 ·exact⟨ob.slots,u.keep b ob q n hb hx⟩
def Un.kept (k:∀b u,h.get? b=some u->h'.get? b=some u):Un fs ex H H h h':=
 ⟨fun b ob q _ _ _=>k b ob q,fun b ob q _ _ _=>⟨ob.slots,k b ob q⟩,fun _ _ _ n _=>n,fun b ob q _=>⟨ob,k b ob q⟩,fun _ _ q=>q,fun _ _ _ q=>q,fun _ _ _ _ q=>q⟩
def Un.refl:Un fs ex H H h h:=Un.kept fun _ _ q=>q
def Un.laid (k:∀b u,h.get? b=some u->h'.get? b=some u)(hp:h.objs.size<=a)(hn:H a=none):Un fs ex H (upd H a o) h h' where
 keep:=fun b u q _ _ _=>k b u q
 slot:=fun b u q _ _ _=>⟨u.slots,k b u q⟩
 free:=fun b u q n _=>by rw[Zn (Nat.ne_of_lt (Nat.lt_of_lt_of_le (Heap.lt_size q) hp))];exact n
 there:=fun b u q _=>⟨u,k b u q⟩
 tups:=fun b xs q=>by rw[Zn (Z3 q hn)];exact q
 frzs:=fun b u xs q=>by rw[Zn (Z3 q hn)];exact q
 tbls:=fun b l c r q=>by rw[Zn (Z3 q hn)];exact q
def Un.write (mu:Zjd (H x))(he:e=x\/H e=some (.own x))(k:∀b u,b≠e->h.get? b=some u->h'.get? b=some u)(heo:∃u,h'.get? e=some u):Un fs ex H (upd H x o) h h':=by
 have hx:∀b,H b=none->b≠x:=fun b n z=>by subst z;rw[n] at mu;exact mu
 have hb:∀b,H b=none->b≠e:=fun b n z=>by
  subst z
  rcases he with r|r
  ·exact hx b n r
  ·rw[n] at r;cases r
 have hm:∀b u,H b=some u->¬Zjd (some u)->b≠x:=fun b u q nm z=>by subst z;rw[q] at mu;exact nm mu
 refine⟨fun b u q n _ _=>k b u (hb b n) q,fun b u q n _ _=>⟨u.slots,k b u (hb b n) q⟩,fun b u q n _=>by rw[Zn (hx b n)];exact n,fun b u q _=>?_,
  fun b xs q=>by rw[Zn (hm b _ q fun z=>z)];exact q,fun b u xs q=>by rw[Zn (hm b _ q fun z=>z)];exact q,fun b l c r q=>by rw[Zn (hm b _ q fun z=>z)];exact q⟩
 by_cases hbe:b=e
 ·subst hbe;exact heo
 ·exact⟨u,k b u hbe q⟩
end
def trk (h:Heap)(H:Hp):List Addr:=(List.range h.objs.size).filter fun a=>(H a).isSome
def L9 (h:Heap)(H:Hp):Heap:=PySem.W.hideAll h (trk h H)
def Hw (h:Heap)(H:Hp):(L9 h H).objs.size=h.objs.size:=PySem.W.hideAll_size _ _
def O6 {h:Heap}{H:Hp}{b:Addr}{o:Obj}(e:h.get? b=some o)(n:H b=none):(L9 h H).get? b=some o:=
 PySem.W.hideAll_get _ e fun hm=>by
  have q:(H b).isSome=true:=(List.mem_filter.mp hm).2
  rw[n] at q;simp at q
def Zdk {h:Heap}{H:Hp}{b:Addr}{o:Obj}(e:(L9 h H).get? b=some o):h.get? b=some o/\H b=none:=by
 have e':h.get? b=some o:=PySem.W.of_hideAll (trk h H) e
 refine⟨e',?_⟩
 cases q:H b with
 |none=>rfl
 |some x=>
  have hm:b∈trk h H:=List.mem_filter.mpr ⟨List.mem_range.mpr (Heap.lt_size e'),by simp[q]⟩
  have z:(L9 h H).get? b=none:=PySem.W.hideAll_none (trk h H) hm
  rw[z] at e;cases e
structure Mod (K:PySem.W.Frag) (mg:Str->Option Value) (base:Heap):Prop where
 kin:K.In base
 glob:base.Ns mainGlobals mg
 blt:∃mb,base.Ns builtinsNs mb/\∀x:Str,x ≠ "__name__"->mb x=bootBuiltins x
 nolimit:base.NoLimit
structure Cx where
 prog:Program
 w:World
 K:PySem.W.Frag
 mg:Str->Option Value
 base:Heap
 A:Around
 N:List Str
 s₀:Shared
 H₀:Hp
 env:Env
 outer:List Env
 stack:List Env
 ex:List Addr
 fn:Str->Bool
 calm:Bool
 pn:List (Addr×Obj)
 xe:Value->Shared->Prop
def Hy (l:List Env):List Addr:=l.filterMap (·.frame)
abbrev Cx.fs (X:Cx):List Addr:=Hy X.outer
def Tg (sc:Scope)(x:Str):Prop:=sc.names.lookup x=some .local\/sc.names.lookup x=some .cell\/sc.names.lookup x=some .free
def Zde (sc:Scope)(x:Str):Prop:=sc.names.lookup x=some .local\/sc.names.lookup x=some .cell
def Zlj (env:Env)(h:Heap)(m:Str->Option Value)(x:Str)(u:Value):Prop:=
 (env.kindOf x=some .local/\m x=some u)\/((env.kindOf x=some .cell\/env.kindOf x=some .free)/\∃c,env.cells.lookup x=some c/\h.IsCell c (some u))
structure Cx.Ok (X:Cx):Prop where
 mod:Mod X.K X.mg X.base
 kind:X.env.scope.kind=.function
 glob:X.env.globals=mainGlobals
 blt:X.env.builtins=builtinsNs
 above:X.s₀.heap.objs.size<=X.env.locals
 inj:∀x y c,X.env.cells.lookup x=some c->X.env.cells.lookup y=some c->x=y
 has:∀x,(X.env.kindOf x=some .cell\/X.env.kindOf x=some .free)->∃c,X.env.cells.lookup x=some c
 cab:∀x c,X.fn x=true->X.env.cells.lookup x=some c->X.s₀.heap.objs.size<=c
 hd:X.calm=true->X.A.handled=none
 frames:X.A.frames=some X.stack
 stk:X.stack=X.outer\/(X.stack=X.env::X.outer/\X.env.frame=some X.env.locals)
 exf:∀b∈X.ex,b≠X.env.locals/\∀x c,X.env.cells.lookup x=some c->c≠b
 bs:∀b o,X.base.get? b=some o->X.s₀.heap.get? b=some o/\X.H₀ b=none
 bsz:X.base.objs.size<=X.s₀.heap.objs.size
 noex:∀b o,X.base.get? b=some o->b ∉ X.ex
 exfs:∀b∈X.ex,b ∉ X.fs
 funs:X.s₀.heap.FunFrames X.base X.outer
 frf:∀b∈X.fs,X.H₀ b=none
structure Inv (X:Cx) (pins:List (Addr×Obj)) (σ:List (Option V)) (H:Hp) (s:Shared):Prop where
 ok:X.Ok
 os:s.os=X.s₀.os
 bare:AllBare s.gens
 base:Un X.fs X.ex X.H₀ H X.s₀.heap s.heap
 loc:∃m,s.heap.Ns X.env.locals m/\∀(i:Nat) (x:Str) (v:V),X.N[i]?=some x->σ[i]?=some (some v)->Tg X.env.scope x->∃u,RelV v u/\Zlj X.env s.heap m x u
 cell:∀x c,X.env.cells.lookup x=some c->∃v,s.heap.IsCell c v
 free:H X.env.locals=none
 freeC:∀x c,X.env.cells.lookup x=some c->H c=none
 pin:∀p∈X.pn++pins,s.heap.get? p.1=some p.2/\H p.1=none/\p.1≠X.env.locals/\p.1 ∉ X.fs/\∀v,p.2.data≠.cell v
 hok:HOk X.prog X.w H s.heap
 len:σ.length=X.N.length
section
variable {X:Cx}{pins:List (Addr×Obj)}{σ:List (Option V)}{H H':Hp}{s:Shared}{h':Heap}
def Cx.Ok.nofr (ok:X.Ok){b:Addr}{o:Obj}(e:X.base.get? b=some o):b ∉ X.fs:=fun hb=>by
 have:=(ok.funs.mem hb).1
 rw[e] at this;cases this
theorem Inv.bs (I:Inv X pins σ H s):∀b o,X.base.get? b=some o->s.heap.get? b=some o/\H b=none:=fun b o e=>
 ⟨I.base.keep b o (I.ok.bs b o e).1 (I.ok.bs b o e).2 (I.ok.nofr e) (I.ok.noex b o e),I.base.free b o (I.ok.bs b o e).1 (I.ok.bs b o e).2 (I.ok.noex b o e)⟩
def Inv.bk (I:Inv X pins σ H s):∀b o,X.base.get? b=some o->s.heap.get? b=some o:=fun b o e=>(I.bs b o e).1
theorem Inv.mod (I:Inv X pins σ H s):Mod X.K X.mg X.base:=I.ok.mod
def Inv.kIn (I:Inv X pins σ H s):X.K.In s.heap:=I.ok.mod.kin.keeps I.bk
theorem Inv.lt (I:Inv X pins σ H s):X.env.locals<s.heap.objs.size:=let ⟨_,hn,_⟩:=I.loc;hn.lt
def Inv.sz (I:Inv X pins σ H s):X.s₀.heap.objs.size<=s.heap.objs.size:=Nat.le_trans I.ok.above (Nat.le_of_lt I.lt)
def Inv.nofs (I:Inv X pins σ H s){a:Addr}(h:s.heap.objs.size<=a):a ∉ X.fs:=fun hb=>by
 obtain⟨_,o,ho,_⟩:=I.ok.funs.mem hb
 exact absurd (Nat.lt_of_lt_of_le (Heap.lt_size ho) (Nat.le_trans I.sz h)) (Nat.lt_irrefl _)
def Inv.cne (I:Inv X pins σ H s):∀x c,X.env.cells.lookup x=some c->c≠X.env.locals:=fun x c e z=>by
 obtain⟨v,o,ho,hd⟩:=I.cell x c e
 obtain⟨m,⟨o',es,ep,ho',hd',_⟩,_⟩:=I.loc
 rw[z,ho'] at ho;cases ho;rw[hd'] at hd;cases hd
theorem Inv.funs (I:Inv X pins σ H s):s.heap.FunFrames X.base X.outer:=by
 have all:∀(l:List Env),(∀b∈Hy l,b∈X.fs)->X.s₀.heap.FunFrames X.base l->s.heap.FunFrames X.base l:=by
  intro l
  induction l with
  |nil=>intro _ _;trivial
  |cons env r ih=>
   intro hs hl
   obtain⟨hk,⟨L,o,hf,hn,ho,hd⟩,hr⟩:=hl
   have hL:L∈X.fs:=hs L (by unfold Hy;rw[List.filterMap_cons,hf];exact List.mem_cons_self)
   obtain⟨sl,e⟩:=I.base.slot L o ho (I.ok.frf L hL) hL fun z=>I.ok.exfs L z hL
   exact⟨hk,⟨L,_,hf,hn,e,hd⟩,ih (fun b hb=>hs b (by unfold Hy;rw[List.filterMap_cons,hf];exact List.mem_cons_of_mem _ hb)) hr⟩
 exact all X.outer (fun _ hb=>hb) I.ok.funs
theorem Inv.stack (I:Inv X pins σ H s):s.heap.FunFrames X.base X.stack:=by
 rcases I.ok.stk with e|⟨e,hf⟩
 ·rw[e];exact I.funs
 ·rw[e]
  obtain⟨m,hn,_⟩:=I.loc
  refine .cons (by rw[I.ok.kind];decide) hf hn ?_ I.funs
  exact Heap.get?_none_of_le (Nat.le_trans I.ok.bsz I.ok.above)
def Inv.stkSub (I:Inv X pins σ H s):∀b∈Hy X.stack,b∈X.env.locals::X.fs:=fun b hb=>by
 rcases I.ok.stk with e|⟨e,hf⟩
 ·rw[e] at hb;exact List.mem_cons_of_mem _ hb
 ·rw[e] at hb
  unfold Hy at hb
  rw[List.filterMap_cons,hf] at hb
  exact hb
def Inv.stkFree (I:Inv X pins σ H s):∀b∈Hy X.stack,H b=none:=fun b hb=>by
 rcases List.mem_cons.mp (I.stkSub b hb) with e|hb
 ·rw[e];exact I.free
 ·obtain⟨_,o,ho,_⟩:=I.ok.funs.mem hb
  exact I.base.free b o ho (I.ok.frf b hb) fun z=>I.ok.exfs b z hb
def Inv.step {g':Array GenState}{t':Nat}{d':Drawn}{ch:List Addr}(I:Inv X pins σ H s)(hch:∀b∈ch,(b∈X.ex\/X.s₀.heap.objs.size<=b)/\b≠X.env.locals/\(∀x c,X.env.cells.lookup x=some c->c≠b)/\∀p∈X.pn++pins,p.1≠b)(keep:∀b o,b≠X.env.locals->b ∉ X.fs->b ∉ ch->s.heap.get? b=some o->H b=none->h'.get? b=some o)(slot:∀b o,b≠X.env.locals->b∈X.fs->b ∉ ch->s.heap.get? b=some o->H b=none->∃sl,h'.get? b=some {o with slots:=sl})(free:∀b o,b ∉ ch->s.heap.get? b=some o->H b=none->H' b=none)(there:∀b o,b ∉ ch->s.heap.get? b=some o->∃o',h'.get? b=some o')(tups:∀b xs,H b=some (.tup xs)->H' b=some (.tup xs))(frzs:∀b o u,H b=some (.frz o u)->H' b=some (.frz o u))(tbls:∀b l c q,H b=some (.tbl l c q)->H' b=some (.tbl l c q))(ns:∀m,s.heap.Ns X.env.locals m->h'.Ns X.env.locals m)(hok:HOk X.prog X.w H' h')(hg:AllBare g'):
  Inv X pins σ H' {s with heap:=h',gens:=g',drawn:=d',toks:=t'}:=by
 have neL:∀b o,X.s₀.heap.get? b=some o->b≠X.env.locals:=fun b o e=>Nat.ne_of_lt (Nat.lt_of_lt_of_le (Heap.lt_size e) I.ok.above)
 have neC:∀b o,X.s₀.heap.get? b=some o->b ∉ X.ex->b ∉ ch:=fun b o e hx hb=>by
  rcases(hch b hb).1 with z|z
  ·exact hx z
  ·exact absurd (Nat.lt_of_lt_of_le (Heap.lt_size e) z) (Nat.lt_irrefl _)
 have cellK:∀x c,X.env.cells.lookup x=some c->∀v,s.heap.IsCell c v->h'.IsCell c v:=fun x c e v ⟨o,ho,hd⟩=>by
  have nch:c ∉ ch:=fun z=>(hch c z).2.2.1 x c e rfl
  by_cases hc:c∈X.fs
  ·obtain⟨sl,q⟩:=slot c o (I.cne x c e) hc nch ho (I.freeC x c e)
   exact⟨_,q,hd⟩
  ·exact⟨o,keep c o (I.cne x c e) hc nch ho (I.freeC x c e),hd⟩
 refine⟨I.ok,I.os,hg,⟨fun b o e n hb hx=>?_,fun b o e n hb hx=>?_,fun b o e n hx=>?_,fun b o e hx=>?_,fun b xs e=>tups b xs (I.base.tups b xs e),fun b o xs e=>frzs b o xs (I.base.frzs b o xs e),fun b l c q e=>tbls b l c q (I.base.tbls b l c q e)⟩,?_,fun x c e=>?_,?_,fun x c e=>?_,fun p hp=>?_,hok,I.len⟩
 ·exact keep b o (neL b o e) hb (neC b o e hx) (I.base.keep b o e n hb hx) (I.base.free b o e n hx)
 ·obtain⟨sl,e1⟩:=I.base.slot b o e n hb hx
  obtain⟨sl',e2⟩:=slot b _ (neL b o e) hb (neC b o e hx) e1 (I.base.free b o e n hx)
  exact⟨sl',e2⟩
 ·obtain⟨o',e1⟩:=I.base.there b o e hx
  exact free b o' (neC b o e hx) e1 (I.base.free b o e n hx)
 ·obtain⟨o',e1⟩:=I.base.there b o e hx
  exact there b o' (neC b o e hx) e1
 ·obtain⟨m,hn,hl⟩:=I.loc
  refine⟨m,ns m hn,fun i x v e1 e2 e3=>?_⟩
  obtain⟨u,r,l⟩:=hl i x v e1 e2 e3
  refine⟨u,r,?_⟩
  rcases l with l|⟨k,c,e,z⟩
  ·exact .inl l
  ·exact .inr ⟨k,c,e,cellK x c e _ z⟩
 ·obtain⟨v,z⟩:=I.cell x c e
  exact⟨v,cellK x c e v z⟩
 ·obtain⟨m,⟨o,_,_,ho,_⟩,_⟩:=I.loc
  exact free _ o (fun z=>(hch _ z).2.1 rfl) ho I.free
 ·obtain⟨v,o,ho,hd⟩:=I.cell x c e
  exact free c o (fun z=>(hch c z).2.2.1 x c e rfl) ho (I.freeC x c e)
 ·obtain⟨e,n,ne,nf,d⟩:=I.pin p hp
  have nch:p.1 ∉ ch:=fun z=>(hch p.1 z).2.2.2 p hp rfl
  exact⟨keep p.1 p.2 ne nf nch e n,free p.1 p.2 nch e n,ne,nf,d⟩
def Inv.un {t':Nat}(I:Inv X pins σ H s)(u:Un X.fs [] H H' s.heap h')(hok:HOk X.prog X.w H' h'):Inv X pins σ H' {s with heap:=h',toks:=t'}:=by
 obtain⟨m,⟨o,es,ep,ho,r⟩,_⟩:=id I.loc
 obtain⟨sl,hL⟩:=u.any ho I.free (by simp)
 exact I.step (g':=s.gens) (d':=s.drawn) (ch:=[]) (fun _ z=>nomatch z) (fun b o _ hb _ e n=>u.keep b o e n hb (by simp)) (fun b o _ hb _ e n=>u.slot b o e n hb (by simp)) (fun b o _ e n=>u.free b o e n (by simp)) (fun b o _ e=>u.there b o e (by simp)) u.tups u.frzs u.tbls (fun m' hm=>by
  obtain⟨o',es',ep',ho',r'⟩:=hm
  rw[ho] at ho';cases ho'
  exact⟨_,es',ep',hL,r'⟩) hok I.bare
def Inv.call {g':Array GenState}{t':Nat}{d':Drawn}{ch:List Addr}(I:Inv X pins σ H s)(u:Un (Hy X.stack) ch H H' s.heap h')(hok:HOk X.prog X.w H' h')(hg:AllBare g')(hch:∀b∈ch,(b∈X.ex\/X.s₀.heap.objs.size<=b)/\b≠X.env.locals/\(∀x c,X.env.cells.lookup x=some c->c≠b)/\∀p∈X.pn++pins,p.1≠b):
  Inv X pins σ H' {s with heap:=h',gens:=g',drawn:=d',toks:=t'}:=by
 obtain⟨m,⟨o,es,ep,ho,r⟩,_⟩:=id I.loc
 obtain⟨sl,hL⟩:=u.any ho I.free fun z=>(hch _ z).2.1 rfl
 exact I.step (ch:=ch) hch (fun b o hL hb hc e n=>u.keep b o e n (fun z=>(List.mem_cons.mp (I.stkSub b z)).elim hL hb) hc) (fun b o _ _ hc e n=>u.any e n hc) (fun b o hc e n=>u.free b o e n hc) (fun b o hc e=>u.there b o e hc) u.tups u.frzs u.tbls (fun m' hm=>by
  obtain⟨o',es',ep',ho',r'⟩:=hm
  rw[ho] at ho';cases ho'
  exact⟨_,es',ep',hL,r'⟩) hok hg
def Inv.turned {t':Nat}{it:Addr}(I:Inv X pins σ H s)(k:∀b o,b≠it->s.heap.get? b=some o->h'.get? b=some o)(hn:H it=none)(hL:it≠X.env.locals)(h1:it∈X.ex\/X.s₀.heap.objs.size<=it)(h2:∀x c,X.env.cells.lookup x=some c->c≠it)(h3:∀p∈X.pn++pins,p.1≠it):Inv X pins σ H {s with heap:=h',toks:=t'}:=by
 have nit:∀b u,H b=some u->b≠it:=fun b u e z=>by rw[z,hn] at e;cases e
 refine I.step (g':=s.gens) (d':=s.drawn) (ch:=[it]) (fun b hb=>?_) (fun b o _ _ hc e _=>k b o (fun z=>hc (by simp[z])) e) (fun b o _ _ hc e _=>⟨o.slots,k b o (fun z=>hc (by simp[z])) e⟩) (fun _ _ _ _ n=>n)
  (fun b o hc e=>⟨o,k b o (fun z=>hc (by simp[z])) e⟩) (fun _ _ e=>e) (fun _ _ _ e=>e) (fun _ _ _ _ e=>e) (fun m hm=>?_) (fun b u e=>?_) I.bare
 ·have e:b=it:=by simpa using hb
  subst e
  exact⟨h1,hL,h2,h3⟩
 ·obtain⟨o,es,ep,ho,r⟩:=hm
  exact⟨o,es,ep,k _ o (Ne.symm hL) ho,r⟩
 ·refine(I.hok b u e).stay (fun c v hc q=>k c v ?_ q) (fun _ q=>q) (fun _ _ q=>q) fun _ _ _ q=>q
  rcases hc with z|z
  ·rw[z];exact nit b u e
  ·exact nit c _ z
def Inv.tok (I:Inv X pins σ H s)(t:Nat):Inv X pins σ H {s with toks:=t}:=I.un (h':=s.heap) (t':=t) Un.refl I.hok
theorem Inv.kept {t':Nat}(I:Inv X pins σ H s)(k:∀b u,s.heap.get? b=some u->h'.get? b=some u):Inv X pins σ H {s with heap:=h',toks:=t'}:=I.un (Un.kept k) (I.hok.kept k)
theorem Inv.laid {a:Addr}{o:HO}{t':Nat}(I:Inv X pins σ H s)(k:∀b u,s.heap.get? b=some u->h'.get? b=some u)(hp:s.heap.objs.size<=a)(new:ObjOk X.prog X.w (upd H a o) h' a o):
  Inv X pins σ (upd H a o) {s with heap:=h',toks:=t'}:=I.un (Un.laid k hp (I.hok.fresh hp)) (I.hok.laid k hp new)
theorem Inv.write {x e:Addr}{o:HO}{t':Nat}(I:Inv X pins σ H s)(mu:Zjd (H x))(he:e=x\/H e=some (.own x))(k:∀b u,b≠e->s.heap.get? b=some u->h'.get? b=some u)(heo:∃u,h'.get? e=some u)(new:ObjOk X.prog X.w (upd H x o) h' x o):Inv X pins σ (upd H x o) {s with heap:=h',toks:=t'}:=I.un (Un.write mu he k heo) (I.hok.write mu he k heo new)
def Inv.pins_of {pins':List (Addr×Obj)}(I:Inv X pins σ H s)(h:∀p∈pins',s.heap.get? p.1=some p.2/\H p.1=none/\p.1≠X.env.locals/\p.1 ∉ X.fs/\∀v,p.2.data≠.cell v):Inv X pins' σ H s:=
 ⟨I.ok,I.os,I.bare,I.base,I.loc,I.cell,I.free,I.freeC,fun p hp=>(List.mem_append.mp hp).elim (fun z=>I.pin p (List.mem_append_left _ z)) (h p),I.hok,I.len⟩
def B5 {N:List Str}(hN:N.Nodup){i j:Nat}{x:Str}(a:N[i]?=some x)(b:N[j]?=some x):i=j:=by
 obtain⟨h1,e1⟩:=List.getElem?_eq_some_iff.mp a
 obtain⟨h2,e2⟩:=List.getElem?_eq_some_iff.mp b
 exact(List.getElem_inj hN).mp (e1.trans e2.symm)
def Hz {M:Model}{A:Around}{E:Value->Shared->Prop}{i:Nat}{x:Str}{v:V}{u:Value}{Q:Unit->Shared->Prop}(I:Inv X pins σ H s)(hN:X.N.Nodup)(hi:X.N[i]?=some x)(hx:Zde X.env.scope x)(r:RelV v u)(h:∀s',Inv X pins (σ.set i (some v)) H s'->(∃a,Heap.SameBut a s.heap s'.heap/\(a=X.env.locals\/X.env.cells.lookup x=some a))->Q () s')(hf:X.fn x=true\/X.env.scope.names.lookup x=some .local:=by first|exact .inl rfl|exact .inr rfl|assumption):wpAny M A (storeName X.env x u) Q E s:=by
 obtain⟨m,hn,hl⟩:=id I.loc
 have hcls:(X.env.scope.kind==.class||(X.env.scope.kind==.module&&X.env.locals != X.env.globals))=false:=by rw[I.ok.kind];rfl
 have hiσ:i<σ.length:=by rw[I.len];exact(List.getElem?_eq_some_iff.mp hi).1
 have cne:=I.cne
 have tracked:∀{a:Addr}{h':Heap},(∃o,s.heap.get? a=some o/\H a=none)->Heap.SameBut a s.heap h'->HOk X.prog X.w H h':=fun {a h'} ha hs b ob e=>by
  obtain⟨_,_,hfree⟩:=ha
  refine(I.hok b ob e).stay (fun c w' hc q=>(hs.2 c ?_).trans q) (fun _ q=>q) (fun _ _ q=>q) fun _ _ _ q=>q
  rintro rfl
  rcases hc with rfl|hc
  ·rw[hfree] at e;cases e
  ·rw[hfree] at hc;cases hc
 rcases hx with hk|hk
 ·refine wpAny_storeName_local hk hn (fun h' hn' hs=>?_) hcls
  obtain⟨oL,_,_,hoL,_⟩:=id hn
  refine h _ ⟨I.ok,I.os,I.bare,⟨fun b o e n hb hx=>?_,fun b o e n hb hx=>?_,I.base.free,fun b o e hx=>?_,I.base.tups,I.base.frzs,I.base.tbls⟩,⟨_,hn',fun j y v' e1 e2 e3=>?_⟩,fun y c e=>?_,I.free,I.freeC,fun p hp=>?_,tracked ⟨oL,hoL,I.free⟩ hs,by simpa using I.len⟩ ⟨_,hs,.inl rfl⟩
  ·exact(hs.2 b (Nat.ne_of_lt (Nat.lt_of_lt_of_le (Heap.lt_size e) I.ok.above))).trans (I.base.keep b o e n hb hx)
  ·obtain⟨sl,e1⟩:=I.base.slot b o e n hb hx
   exact⟨sl,(hs.2 b (Nat.ne_of_lt (Nat.lt_of_lt_of_le (Heap.lt_size e) I.ok.above))).trans e1⟩
  ·obtain⟨o',e1⟩:=I.base.there b o e hx
   exact⟨o',(hs.2 b (Nat.ne_of_lt (Nat.lt_of_lt_of_le (Heap.lt_size e) I.ok.above))).trans e1⟩
  ·by_cases hj:j=i
   ·subst hj
    rw[hi] at e1;cases e1
    rw[List.getElem?_set_self hiσ] at e2
    cases e2
    exact⟨u,r,.inl ⟨hk,by simp⟩⟩
   ·rw[List.getElem?_set_ne (Ne.symm hj)] at e2
    obtain⟨u',r',q⟩:=hl j y v' e1 e2 e3
    refine⟨u',r',?_⟩
    rcases q with⟨k,e⟩|⟨k,c,e,z⟩
    ·refine .inl ⟨k,?_⟩
     have:y≠x:=fun e=>hj (B5 hN e1 (e▸hi))
     simp[this,e]
    ·exact .inr ⟨k,c,e,z.sameBut hs (cne y c e)⟩
  ·obtain⟨w',z⟩:=I.cell y c e
   exact⟨w',z.sameBut hs (cne y c e)⟩
  ·obtain⟨e,n,ne,nf,d⟩:=I.pin p hp
   exact⟨(hs.2 p.1 ne).trans e,n,ne,nf,d⟩
 ·have hfn:X.fn x=true:=by
   rcases hf with z|z
   ·exact z
   ·rw[z] at hk;cases hk
  obtain⟨c,hc⟩:=I.ok.has x (.inl hk)
  obtain⟨w',z⟩:=I.cell x c hc
  refine wpAny_storeName_cell I.ok.kind hk hc z (fun h' hc' hs=>?_)
  obtain⟨oc,hoc,hocd⟩:=id z
  refine h {s with heap:=h'} ⟨I.ok,I.os,I.bare,⟨fun b o e n hb hx=>?_,fun b o e n hb hx=>?_,I.base.free,fun b o e hx=>?_,I.base.tups,I.base.frzs,I.base.tbls⟩,⟨m,hn.sameBut hs (Ne.symm (cne x c hc)),fun j y v' e1 e2 e3=>?_⟩,fun y c' e=>?_,I.free,I.freeC,fun p hp=>?_,tracked ⟨oc,hoc,I.freeC x c hc⟩ hs,by simpa using I.len⟩ ⟨c,hs,.inr hc⟩
  ·exact(hs.2 b (Nat.ne_of_lt (Nat.lt_of_lt_of_le (Heap.lt_size e) (I.ok.cab x c hfn hc)))).trans (I.base.keep b o e n hb hx)
  ·obtain⟨sl,e1⟩:=I.base.slot b o e n hb hx
   exact⟨sl,(hs.2 b (Nat.ne_of_lt (Nat.lt_of_lt_of_le (Heap.lt_size e) (I.ok.cab x c hfn hc)))).trans e1⟩
  ·obtain⟨o',e1⟩:=I.base.there b o e hx
   exact⟨o',(hs.2 b (Nat.ne_of_lt (Nat.lt_of_lt_of_le (Heap.lt_size e) (I.ok.cab x c hfn hc)))).trans e1⟩
  ·by_cases hj:j=i
   ·subst hj
    rw[hi] at e1;cases e1
    rw[List.getElem?_set_self hiσ] at e2
    cases e2
    exact⟨u,r,.inr ⟨.inl hk,c,hc,hc'⟩⟩
   ·rw[List.getElem?_set_ne (Ne.symm hj)] at e2
    obtain⟨u',r',q⟩:=hl j y v' e1 e2 e3
    refine⟨u',r',?_⟩
    rcases q with q|⟨k,c',e,z'⟩
    ·exact .inl q
    ·refine .inr ⟨k,c',e,z'.sameBut hs ?_⟩
     rintro rfl
     exact hj (B5 hN e1 (I.ok.inj _ _ _ e hc▸hi))
  ·by_cases hcc:c'=c
   ·subst hcc;exact⟨_,hc'⟩
   ·obtain⟨w2,z2⟩:=I.cell y c' e
    exact⟨w2,z2.sameBut hs hcc⟩
  ·obtain⟨e,n,ne,nf,d⟩:=I.pin p hp
   refine⟨(hs.2 p.1 ?_).trans e,n,ne,nf,d⟩
   intro q
   rw[q,hoc] at e
   have q':oc=p.2:=Option.some.inj e
   exact d w' (by rw[<-q'];exact hocd)
def Gf {M:Model}{A:Around}{E:Value->Shared->Prop}{i:Nat}{x:Str}{v:V}{u:Value}{Q:Unit->Shared->Prop}(I:Inv X pins σ H s)(hN:X.N.Nodup)(hi:X.N[i]?=some x)(hx:Zde X.env.scope x)(r:RelV v u)(h:∀s',Inv X pins (σ.set i (some v)) H s'->Q () s')(hf:X.fn x=true\/X.env.scope.names.lookup x=some .local:=by first|exact .inl rfl|exact .inr rfl|assumption):wpAny M A (storeName X.env x u) Q E s:=
 Hz I hN hi hx r (fun s' I' _=>h s' I') hf
def Inv.call' {s':Shared}{ch:List Addr}(I:Inv X pins σ H s)(ho:s'.os=s.os)(u:Un (Hy X.stack) ch H H' s.heap s'.heap)(hok:HOk X.prog X.w H' s'.heap)(hg:AllBare s'.gens)(hch:∀b∈ch,(b∈X.ex\/X.s₀.heap.objs.size<=b)/\b≠X.env.locals/\(∀x c,X.env.cells.lookup x=some c->c≠b)/\∀p∈X.pn++pins,p.1≠b):Inv X pins σ H' s':=by
 obtain⟨h',g',d',t',o'⟩:=s'
 have e:o'=s.os:=ho
 subst e
 exact I.call (g':=g') (t':=t') (d':=d') u hok hg hch
end
abbrev XK:=Value->Option Addr->Hp->Prop
abbrev St:=List (Option V)
abbrev VK:=V->Hp->Prop
abbrev TE:=St->Hp->VK->Prop
abbrev TT:=St->Hp->(Bool->Hp->Prop)->Prop
abbrev TA:=St->Hp->(List V->Hp->Prop)->Prop
structure Ends where
 nx:St->Hp->Prop
 rt:VK
 bk:St->Hp->Prop:=fun _ _=>False
 ct:St->Hp->Prop:=fun _ _=>False
abbrev TS:=Ends->St->Hp->Prop
def EP (X:Cx)(pins:List (Addr×Obj))(σ:St)(Q:VK)(u:Value)(s':Shared):Prop:=∃v H',Inv X pins σ H' s'/\RelV v u/\Q v H'
def TP (X:Cx)(pins:List (Addr×Obj))(σ:St)(Q:Bool->Hp->Prop)(b:Bool)(s':Shared):Prop:=∃H',Inv X pins σ H' s'/\Q b H'
def AP (X:Cx)(pins:List (Addr×Obj))(σ:St)(Q:List V->Hp->Prop)(us:List Value)(s':Shared):Prop:=∃vs H',Inv X pins σ H' s'/\Vals vs us/\Q vs H'
def SP (X:Cx)(pins:List (Addr×Obj))(D:Ends)(f:Flow)(s':Shared):Prop:=
 match f with
 |.next=>∃σ' H',Inv X pins σ' H' s'/\D.nx σ' H'
 |.brk=>∃σ' H',Inv X pins σ' H' s'/\D.bk σ' H'
 |.cont=>∃σ' H',Inv X pins σ' H' s'/\D.ct σ' H'
 |.ret u=>∃v σ' H',Inv X pins σ' H' s'/\RelV v u/\D.rt v H'
def PE (X:Cx)(e:Expr)(t:TE):Prop:=
 ∀(pins:List (Addr×Obj)) (s:Shared) (σ:St) (H:Hp) (Q:VK),Inv X pins σ H s->t σ H Q->wpAny (model X.prog X.w) X.A (eval e X.env) (EP X pins σ Q) X.xe s
def PT (X:Cx)(e:Expr)(t:TT):Prop:=
 ∀(pins:List (Addr×Obj)) (s:Shared) (σ:St) (H:Hp) (Q:Bool->Hp->Prop),Inv X pins σ H s->t σ H Q->wpAny (model X.prog X.w) X.A (isTrue e X.env (eval e X.env)) (TP X pins σ Q) X.xe s
def PW (X:Cx)(e:Expr)(t:TT):Prop:=
 ∀(whole:Sem Value) (pins:List (Addr×Obj)) (s:Shared) (σ:St) (H:Hp) (Q:Bool->Hp->Prop),Inv X pins σ H s->t σ H Q->wpAny (model X.prog X.w) X.A (isTrue e X.env whole) (TP X pins σ Q) X.xe s
def PW.pt {X:Cx}{e:Expr}{t:TT}(h:PW X e t):PT X e t:=h _
def PA (X:Cx)(es:List Expr)(t:TA):Prop:=
 ∀(pos:Pos) (pins:List (Addr×Obj)) (s:Shared) (σ:St) (H:Hp) (Q:List V->Hp->Prop),Inv X pins σ H s->t σ H Q->wpAny (model X.prog X.w) X.A (spliced (backTo pos (starEach es X.env))) (AP X pins σ Q) X.xe s
def PS (X:Cx)(st:Stmt)(t:TS):Prop:=
 ∀(pins:List (Addr×Obj)) (s:Shared) (σ:St) (H:Hp) (D:Ends),Inv X pins σ H s->t D σ H->wpAny (model X.prog X.w) X.A (exec st X.env) (SP X pins D) X.xe s
def PSs (X:Cx)(st:List Stmt)(t:TS):Prop:=
 ∀(pins:List (Addr×Obj)) (s:Shared) (σ:St) (H:Hp) (D:Ends),Inv X pins σ H s->t D σ H->wpAny (model X.prog X.w) X.A (execs st X.env) (SP X pins D) X.xe s
def Yx {α:Type}{t:Sem α}{Q Q':α->Shared->Prop}{M:Model}{A:Around}{E:Value->Shared->Prop}{s:Shared}(h:wpAny M A t Q E s)(hQ:∀a s,Q a s->Q' a s):wpAny M A t Q' E s:=wpAny_mono h hQ fun _ _ x=>x
section
variable {X:Cx}
def O7 (i:Nat):TE:=fun σ H Q=>∃v,σ[i]?=some (some v)/\Q v H
def tC (v:V):TE:=fun _ H Q=>Q v H
def Qc {i:Nat}{x:Str}{pos:Pos}(hN:X.N[i]?=some x)(hv:Tg X.env.scope x) (hd:(x==("__debug__":Str))=false:=by decide) (hcd:(x==("__classdict__":Str))=false:=by decide):PE X (.Name x pos) (O7 i):=by
 intro pins s σ H Q I h
 obtain⟨v,e,h⟩:=h
 obtain⟨m,hn,hl⟩:=I.loc
 obtain⟨u,r,l⟩:=hl i x v hN e hv
 have fin:EP X pins σ Q u s:=⟨v,H,I,r,h⟩
 rcases l with⟨hk,hm⟩|⟨hk,c,hc,hcell⟩
 ·exact wpAny_Name (wpAny_loadName_local I.ok.kind hk hn hm fin) hd
 ·rcases hk with hk|hk
  ·exact wpAny_Name (wpAny_loadName_cell I.ok.kind hk hc hcell fin) hd
  ·exact wpAny_Name (wpAny_loadName_free I.ok.kind hk hc hcell fin hcd) hd
def O8 {i j pos}:PE X (.Constant (.int i) j pos) (tC (.int i)):=fun _ _ _ H _ I h=>wpAny_Constant_int ⟨.int i,H,I.tok _,⟨_,rfl⟩,h⟩
def Zje {b j pos}:PE X (.Constant (.bool b) j pos) (tC (.bl b)):=fun _ _ _ H _ I h=>Constant_bool ⟨.bl b,H,I,rfl,h⟩
def Zgs {j pos}:PE X (.Constant .none j pos) (tC .non):=fun _ _ _ H _ I h=>Constant_none ⟨.non,H,I,rfl,h⟩
def Zgt {x j pos}:PE X (.Constant (.str x) j pos) (tC (.str x)):=fun _ _ _ H _ I h=>Calls.Constant_str ⟨.str x,H,I.tok _,⟨_,rfl⟩,h⟩
def Gl (X:Cx)(x:Str):Prop:=X.env.kindOf x=some .globalImplicit
def Ej {E:Value->Shared->Prop}{pins:List (Addr×Obj)}{s:Shared}{σ:St}{H:Hp}{x:Str}{u:Value}{pos:Pos}{Q:Value->Shared->Prop}(I:Inv X pins σ H s)(hg:Gl X x)(hm:X.mg x=some u)(h:Q u s)
  (hd:(x==("__debug__":Str))=false:=by decide):wpAny (model X.prog X.w) X.A (eval (.Name x pos) X.env) Q E s:=
 Calls.Name_function_global I.ok.kind hg (Calls.loadGlobal_global (by rw[I.ok.glob];exact I.mod.glob.keeps I.bk) hm h) hd
def Re {E:Value->Shared->Prop}{pins:List (Addr×Obj)}{s:Shared}{σ:St}{H:Hp}{x:Str}{u:Value}{pos:Pos}{Q:Value->Shared->Prop}(I:Inv X pins σ H s)(hg:Gl X x)(hm:X.mg x=none)(hv:bootBuiltins x=some u)(h:Q u s)
  (hn:x ≠ "__name__":=by decide) (hd:(x==("__debug__":Str))=false:=by decide):wpAny (model X.prog X.w) X.A (eval (.Name x pos) X.env) Q E s:=by
 obtain⟨mb,h1,h2⟩:=I.mod.blt
 exact Calls.Name_function_global I.ok.kind hg (Calls.loadGlobal_builtin (by rw[I.ok.glob];exact I.mod.glob.keeps I.bk) hm (by rw[I.ok.blt];exact h1.keeps I.bk) ((h2 x hn).trans hv) h) hd
def Zdl {x:Str}{v:V}{u:Value}{pos:Pos}(hg:Gl X x)(hm:X.mg x=none)(hv:bootBuiltins x=some u)(r:RelV v u) (hn:x ≠ "__name__":=by decide) (hd:(x==("__debug__":Str))=false:=by decide):PE X (.Name x pos) (tC v):=
 fun _ _ _ H _ I h=>Re I hg hm hv ⟨v,H,I,r,h⟩ hn hd
variable {a b:Expr}{ta tb:TE}{pos:Pos}
def PC (X:Cx)(op:CmpOp)(a b:Expr)(t:TE):Prop:=
 ∀(pins:List (Addr×Obj)) (s:Shared) (σ:St) (H:Hp) (Q:VK),Inv X pins σ H s->t σ H Q ->
  wpAny (model X.prog X.w) X.A (eval a X.env) (fun v s₁=>wpAny (model X.prog X.w) X.A (eval b X.env) (fun u s₂=>wpAny (model X.prog X.w) X.A (compareOp op v u) (EP X pins σ Q) X.xe s₂) X.xe s₁) X.xe s
def tB (t:TE):TT:=fun σ H Q=>t σ H fun x H1=>∃c,x=.bl c/\Q c H1
def Zgu {op:CmpOp}{t:TE}(h:PC X op a b t)(h1:behindInMarks op b=false:=by first|exact nobehind _ (by decide) (by decide)|rfl):PT X (.Compare a [op] [b] pos) (tB t):=by
 intro pins s σ H Q I hw
 refine wpAny_isTrue_Compare1 (Yx (h pins s σ H _ I hw) fun v s1 h1=>Yx h1 fun u s2 h2=>Yx h2 fun c s3 ⟨x,H1,I1,r1,q1⟩=>?_) h1
 obtain⟨d,rfl,q⟩:=q1
 cases r1
 exact wpAny_truthy_bool ⟨H1,I1,q⟩
def Zgv {e:Expr}{t:TE}(h:PE X e t)(he:∀whole,isTrue e X.env whole=(do let v <-whole;standAt e.pos;holding [v] (truthy v)):=by intro _;rfl):PT X e (tB t):=by
 intro pins s σ H Q I hw
 refine isTrue_plain (Yx (h pins s σ H _ I hw) fun v s1 ⟨x,H1,I1,r1,q1⟩=>?_) (he _)
 obtain⟨d,rfl,q⟩:=q1
 cases r1
 exact wpAny_truthy_bool ⟨H1,I1,q⟩
variable {tA tB':TT}{rest:List Expr}
def Zlk (t u:TT):TT:=fun σ H Q=>t σ H fun c H1=>if c=true then u σ H1 Q else Q false H1
def Zm2 (t u:TT):TT:=fun σ H Q=>t σ H fun c H1=>if c=true then Q true H1 else u σ H1 Q
def Zll (t:TT):TT:=fun σ H Q=>t σ H fun c H1=>Q (!c) H1
def Zdm (ha:PT X a tA):PW X (.BoolOp .And [a] pos) tA:=by
 intro wh pins s σ H Q I h
 refine isTrue_and (Yx (ha pins s σ H Q I h) fun c s1 e=>?_)
 cases c with
 |true=>exact isTrue_and_nil e
 |false=>exact e
def Zgw (ha:PT X a tA):PW X (.BoolOp .Or [a] pos) tA:=by
 intro wh pins s σ H Q I h
 refine isTrue_or (Yx (ha pins s σ H Q I h) fun c s1 e=>?_)
 cases c with
 |false=>exact isTrue_or_nil e
 |true=>exact e
def Zgx (ha:PT X a tA)(hb:PW X (.BoolOp .And (b::rest) pos) tB'):PW X (.BoolOp .And (a::b::rest) pos) (Zlk tA tB'):=by
 intro wh pins s σ H Q I h
 refine isTrue_and (Yx (ha pins s σ H _ I h) fun c s1 ⟨H1,I1,q1⟩=>?_)
 cases c with
 |true=>exact hb wh pins s1 σ H1 Q I1 q1
 |false=>exact⟨H1,I1,q1⟩
def Zjf (ha:PT X a tA)(hb:PW X (.BoolOp .Or (b::rest) pos) tB'):PW X (.BoolOp .Or (a::b::rest) pos) (Zm2 tA tB'):=by
 intro wh pins s σ H Q I h
 refine isTrue_or (Yx (ha pins s σ H _ I h) fun c s1 ⟨H1,I1,q1⟩=>?_)
 cases c with
 |true=>exact⟨H1,I1,q1⟩
 |false=>exact hb wh pins s1 σ H1 Q I1 q1
def Zgy (ha:PT X a tA):PT X (.UnaryOp .Not a pos) (Zll tA):=by
 intro pins s σ H Q I h
 exact isTrue_not (ha pins s σ H (fun c H1=>Q (!c) H1) I h)
def Zjg (ta tb:TE):TE:=fun σ H Q=>ta σ H fun x H1=>∃c,x=.bl c/\if c=true then tb σ H1 Q else Q (.bl false) H1
def Zjh (ta:TE):TE:=fun σ H Q=>ta σ H fun x H1=>∃c,x=.bl c/\Q (.bl (!c)) H1
def Zgz {op}{t:TE}(h:PE X a t):PE X (.BoolOp op [a] pos) t:=fun pins s σ H Q I hw=>BoolOp_one (h pins s σ H Q I hw)
def Zg0 (ha:PE X a ta)(hb:PE X (.BoolOp .And (b::rest) pos) tb):PE X (.BoolOp .And (a::b::rest) pos) (Zjg ta tb):=by
 intro pins s σ H Q I h
 refine BoolOp_and (Yx (ha pins s σ H _ I h) fun v s1 ⟨x,H1,I1,r1,q1⟩=>?_)
 obtain⟨c,rfl,q1⟩:=q1
 cases r1
 refine wpAny_truthy_bool ?_
 cases c with
 |true=>exact hb pins s1 σ H1 Q I1 q1
 |false=>exact⟨.bl false,H1,I1,rfl,q1⟩
def Zg1 (ha:PE X a ta):PE X (.UnaryOp .Not a pos) (Zjh ta):=by
 intro pins s σ H Q I h
 refine UnaryOp_ (Yx (ha pins s σ H _ I h) fun v s1 ⟨x,H1,I1,r1,q1⟩=>?_)
 obtain⟨c,rfl,q1⟩:=q1
 cases r1
 exact not_of (wpAny_truthy_bool ⟨.bl (!c),H1,I1,rfl,q1⟩)
def Zm3 (t:TT)(ta tb:TE):TE:=fun σ H Q=>t σ H fun c H1=>if c=true then ta σ H1 Q else tb σ H1 Q
def B6 {c:Expr}(hc:PT X c tA)(ha:PE X a ta)(hb:PE X b tb):PE X (.IfExp c a b pos) (Zm3 tA ta tb):=by
 intro pins s σ H Q I h
 refine wpAny_IfExp (Yx (hc pins s σ H _ I h) fun d s1 ⟨H1,I1,q1⟩=>?_)
 cases d with
 |true=>exact ha pins s1 σ H1 Q I1 q1
 |false=>exact hb pins s1 σ H1 Q I1 q1
end
def SqL (K:PySem.W.Frag)(H:Hp)(a:Addr)(xs:List V):Prop:=
 Rd H a (.lst xs) \/
  ∃(o:Obj) (its:Array Value) (n:Nat),K.lookup a=some o/\o.cls=.type "list"/\o.dict=none/\o.data=.seq its n/\its.size<=sizeLine/\Vals xs its.toList
def SqT (K:PySem.W.Frag)(H:Hp)(a:Addr)(xs:List V):Prop:=
 Rd H a (.tup xs) \/
  ∃(o:Obj) (its:Array Value) (n:Nat),K.lookup a=some o/\o.cls=.type "tuple"/\o.data=.seq its n/\its.size<=sizeLine/\Vals xs its.toList
def Zlm:Value->Option V
 |.none=>some .non
 |.bool b=>some (.bl b)
 |.int i _=>some (.int i)
 |.str x _=>some (.str x)
 |.bytes b _=>some (.byt b)
 |.float b _=>some (.flt b)
 |.ref a=>some (.ref a)
 |.type n=>some (.ty n)
 |_=>none
def RelV.abs {x:V}{u:Value}(r:RelV x u):Zlm u=some x:=by
 cases x with
 |non=>cases r;rfl
 |bl _=>cases r;rfl
 |int _=>obtain⟨t,rfl⟩:=r;rfl
 |str _=>obtain⟨t,rfl⟩:=r;rfl
 |byt _=>obtain⟨t,rfl⟩:=r;rfl
 |flt _=>obtain⟨t,rfl⟩:=r;rfl
 |ref _=>cases r;rfl
 |ty _=>cases r;rfl
theorem RelV.inj {x y:V}{u:Value}(r:RelV x u)(q:RelV y u):x=y:=Option.some.inj (r.abs.symm.trans q.abs)
theorem Vals.inj:∀{xs ys:List V}{us:List Value},Vals xs us->Vals ys us->xs=ys
 |_,_,_,.nil,.nil=>rfl
 |_,_,_,.cons r t,.cons r' t'=>by rw[r.inj r',Vals.inj t t']
section
variable {X:Cx}{pins:List (Addr×Obj)}{σ:St}{H:Hp}{s:Shared}{a:Addr}{xs ys:List V}
def SqL.of {K:PySem.W.Frag}(h:H a=some (.lst xs)):SqL K H a xs:=.inl (.inl h)
def SqT.of {K:PySem.W.Frag}(h:H a=some (.tup xs)):SqT K H a xs:=.inl (.inl h)
def Inv.list (I:Inv X pins σ H s)(h:SqL X.K H a xs):∃its:List Value,Vals xs its/\PlainL s.heap a its.toArray/\xs.length<=sizeLine:=by
 rcases h with h|⟨o,its,n,hk,hc,hd,hs,hz,r⟩
 ·obtain⟨z,its,n,r,e⟩:=h.ok I.hok
  exact⟨its,r,⟨_,n,e,rfl,rfl,rfl⟩,z⟩
 ·refine⟨its.toList,r,⟨o,n,I.kIn a o hk,hc,hd,by simpa using hs⟩,?_⟩
  have e:=r.length
  simp only[Array.length_toList] at e
  omega
def Inv.tuple (I:Inv X pins σ H s)(h:SqT X.K H a xs):∃its:List Value,Vals xs its/\IsTup s.heap a its.toArray/\xs.length<=sizeLine:=by
 rcases h with h|⟨o,its,n,hk,hc,hs,hz,r⟩
 ·obtain⟨z,its,r,p⟩:=h.ok I.hok
  exact⟨its,r,p,z⟩
 ·refine⟨its.toList,r,⟨o,I.kIn a o hk,hc,n,by simpa using hs⟩,?_⟩
  have e:=r.length
  simp only[Array.length_toList] at e
  omega
def Inv.list_inj (I:Inv X pins σ H s)(h:SqL X.K H a xs)(h':SqL X.K H a ys):xs=ys:=by
 obtain⟨its,r,⟨o,n,e,_,_,d⟩,_⟩:=I.list h
 obtain⟨its',r',⟨o',n',e',_,_,d'⟩,_⟩:=I.list h'
 rw[e] at e';cases e'
 rw[d] at d'
 injection d' with d1 _
 have:its=its':=by simpa using congrArg Array.toList d1
 subst this
 exact r.inj r'
def Inv.tuple_inj (I:Inv X pins σ H s)(h:SqT X.K H a xs)(h':SqT X.K H a ys):xs=ys:=by
 obtain⟨its,r,⟨o,e,_,n,d⟩,_⟩:=I.tuple h
 obtain⟨its',r',⟨o',e',_,n',d'⟩,_⟩:=I.tuple h'
 rw[e] at e';cases e'
 rw[d] at d'
 injection d' with d1 _
 have:its=its':=by simpa using congrArg Array.toList d1
 subst this
 exact r.inj r'
end
abbrev Cx.wish (X:Cx)(E:Value->Shared->Prop):Cx:={X with xe:=E}
abbrev Cx.nox (X:Cx):Cx:=X.wish fun _ _=>False
theorem Cx.Ok.wish {X:Cx}(ok:X.Ok)(E:Value->Shared->Prop):(X.wish E).Ok:=
 ⟨ok.mod,ok.kind,ok.glob,ok.blt,ok.above,ok.inj,ok.has,ok.cab,ok.hd,ok.frames,ok.stk,ok.exf,ok.bs,ok.bsz,ok.noex,ok.exfs,ok.funs,ok.frf⟩
def Cx.Ok.unwish {X:Cx}{E:Value->Shared->Prop}(ok:(X.wish E).Ok):X.Ok:=
 ⟨ok.mod,ok.kind,ok.glob,ok.blt,ok.above,ok.inj,ok.has,ok.cab,ok.hd,ok.frames,ok.stk,ok.exf,ok.bs,ok.bsz,ok.noex,ok.exfs,ok.funs,ok.frf⟩
section
variable {X:Cx}{pins:List (Addr×Obj)}{σ:St}{H:Hp}{s:Shared}{E:Value->Shared->Prop}
theorem Inv.wish (I:Inv X pins σ H s)(E:Value->Shared->Prop):Inv (X.wish E) pins σ H s:=⟨I.ok.wish E,I.os,I.bare,I.base,I.loc,I.cell,I.free,I.freeC,I.pin,I.hok,I.len⟩
theorem Inv.unwish (I:Inv (X.wish E) pins σ H s):Inv X pins σ H s:=⟨I.ok.unwish,I.os,I.bare,I.base,I.loc,I.cell,I.free,I.freeC,I.pin,I.hok,I.len⟩
theorem SP.unwish {D:Ends}{f:Flow}{s':Shared}(h:SP (X.wish E) pins D f s'):SP X pins D f s':=by
 cases f with
 |next=>obtain⟨σ',H',I,q⟩:=h;exact⟨σ',H',I.unwish,q⟩
 |brk=>obtain⟨σ',H',I,q⟩:=h;exact⟨σ',H',I.unwish,q⟩
 |cont=>obtain⟨σ',H',I,q⟩:=h;exact⟨σ',H',I.unwish,q⟩
 |ret u=>obtain⟨v,σ',H',I,r,q⟩:=h;exact⟨v,σ',H',I.unwish,r,q⟩
theorem PSs.nox {st:List Stmt}{t:TS}(h:PSs X.nox st t):PSs X st t:=fun pins s σ H D I hw=>
 wpAny_mono (h pins s σ H D (I.wish _) hw) (fun _ _ q=>q.unwish) fun _ _ z=>False.elim z
end
section
variable {X:Cx}{st:Stmt}{rest:List Stmt}{t u:TS}{e:Expr}{te:TE}{pos:Pos}
def Zji:TS:=fun D σ H=>D.nx σ H
def Zln (t u:TS):TS:=fun D σ H=>t {D with nx:=u D} σ H
def P4:PSs X [] Zji:=fun _ _ σ H _ I h=>wpAny_execs_nil ⟨σ,H,I,h⟩
def Qz (h1:PS X st t)(h2:PSs X rest u):PSs X (st::rest) (Zln t u):=by
 intro pins s σ H D I h
 refine wpAny_execs_cons (Yx (h1 pins s σ H {D with nx:=u D} I h) fun f s1 q=>?_)
 cases f with
 |next=>
  obtain⟨σ',H',I',q⟩:=q
  exact h2 pins s1 σ' H' D I' q
 |ret v=>exact q
 |brk=>exact q
 |cont=>exact q
def Jm (h1:PS X st t):PSs X [st] t:=by
 intro pins s σ H D I h
 refine wpAny_execs_cons (Yx (h1 pins s σ H D I h) fun f s1 q=>?_)
 cases f with
 |next=>exact wpAny_execs_nil q
 |ret v=>exact q
 |brk=>exact q
 |cont=>exact q
def Inv.quiet {pins:List (Addr×Obj)}{σ:St}{H:Hp}{s:Shared}(I:Inv X pins σ H s):interactive X.env=false:=by simp[interactive,I.ok.kind]
def Zfw (te:TE):TS:=fun D σ H=>te σ H fun _ H1=>D.nx σ H1
def Wq (he:PE X e te)(hs:swapsWith e none pos.line X.env=pure false:=by rfl):PS X (.Expr e pos) (Zfw te):=by
 intro pins s σ H D I h
 exact wpAny_Expr_any (Yx (he pins s σ H _ I h) fun v s1 ⟨x,H1,I1,r1,q1⟩=>⟨σ,H1,I1,q1⟩) I.quiet hs
def Zlo (te:TE):TS:=fun D σ H=>te σ H D.rt
def Nh (he:PE X e te):PS X (.Return (some e) pos) (Zlo te):=by
 intro pins s σ H D I h
 exact wpAny_Return_some (Yx (he pins s σ H _ I h) fun v s1 ⟨x,H1,I1,r1,q1⟩=>⟨x,σ,H1,I1,r1,q1⟩)
def Zlp (c:TT)(t u:TS):TS:=fun D σ H=>c σ H fun b H1=>if b=true then t D σ H1 else u D σ H1
def Ek {c:Expr}{a b:List Stmt}{tc:TT}(hc:PT X c tc)(ha:PSs X a t)(hb:PSs X b u):PS X (.If c a b pos) (Zlp tc t u):=by
 intro pins s σ H D I h
 refine wpAny_If (Yx (hc pins s σ H _ I h) fun d s1 ⟨H1,I1,q1⟩=>?_)
 cases d with
 |true=>exact ha pins s1 σ H1 D I1 q1
 |false=>exact hb pins s1 σ H1 D I1 q1
end
abbrev TG:=V->St->Hp->(St->Hp->Prop)->Prop
abbrev Zfx:=List V->St->Hp->(St->Hp->Prop)->Prop
def PG (X:Cx)(target:Expr)(t:TG):Prop:=
 ∀(pins:List (Addr×Obj)) (s:Shared) (σ:St) (H:Hp) (v:V) (u:Value) (Q:St->Hp->Prop),Inv X pins σ H s->RelV v u->t v σ H Q ->
  wpAny (model X.prog X.w) X.A (assign target X.env u) (fun _ s'=>∃σ' H',Inv X pins σ' H' s'/\Q σ' H') X.xe s
def Zjj (X:Cx)(ts:List Expr)(t:Zfx):Prop:=
 ∀(pins:List (Addr×Obj)) (s:Shared) (σ:St) (H:Hp) (vs:List V) (us:List Value) (Q:St->Hp->Prop),Inv X pins σ H s->Vals vs us->t vs σ H Q ->
  wpAny (model X.prog X.w) X.A (assignInOrder ((assignEach ts X.env).map (·.2)) us) (fun _ s'=>∃σ' H',Inv X pins σ' H' s'/\Q σ' H') X.xe s
section
variable {X:Cx}{pos:Pos}
def El (i:Nat):TG:=fun v σ H Q=>Q (σ.set i (some v)) H
def P5 {i:Nat}{x:Str}(hN:X.N.Nodup)(hi:X.N[i]?=some x)(hx:Zde X.env.scope x)(hf:X.fn x=true\/X.env.scope.names.lookup x=some .local:=by first|exact .inl rfl|exact .inr rfl|assumption):PG X (.Name x pos) (El i):=by
 intro pins s σ H v u Q I r h
 exact wpAny_assign_Name (Gf I hN hi hx r (fun s' I'=>⟨_,H,I',h⟩) hf)
def Zjk:Zfx:=fun vs σ H Q=>vs=[]/\Q σ H
def O9 (t:TG)(u:Zfx):Zfx:=fun vs σ H Q=>∃v r,vs=v::r/\t v σ H fun σ' H'=>u r σ' H' Q
def Em:Zjj X [] Zjk:=by
 intro pins s σ H vs us Q I r h
 obtain⟨e,h⟩:=h
 subst e
 cases r
 exact assignInOrder_nil ⟨σ,H,I,h⟩
def Rf {e:Expr}{es:List Expr}{t:TG}{u:Zfx}(h1:PG X e t)(h2:Zjj X es u)(hs:(assignEach (e::es) X.env).map (·.2)=assign e X.env::(assignEach es X.env).map (·.2):=by rfl):Zjj X (e::es) (O9 t u):=by
 intro pins s σ H vs us Q I r h
 obtain⟨v,vr,e1,h⟩:=h
 subst e1
 cases r with
 |cons r rr=>
  rw[hs]
  refine assignInOrder_cons (Yx (h1 pins s σ H _ _ _ I r h) fun _ s1 ⟨σ1,H1,I1,q1⟩=>?_)
  exact h2 pins s1 σ1 H1 _ _ Q I1 rr q1
def Zjl (te:TE)(g:TG):TS:=fun D σ H=>te σ H fun x H1=>g x σ H1 D.nx
def Zg2 {tg e:Expr}{te:TE}{g:TG}(he:PE X e te)(hg:PG X tg g)(hs:swapsWithSole [tg] e pos.line X.env=pure false:=by rfl)(hw:swappedStores [tg] e X.env=pure none:=by rfl)(h1:(assignEach [tg] X.env).map (·.2)=[assign tg X.env]:=by rfl):PS X (.Assign [tg] e pos) (Zjl te g):=by
 intro pins s σ H D I h
 refine wpAny_Assign_stores (Yx (he pins s σ H _ I h) fun v s1 ⟨x,H1,I1,r1,q1⟩=>?_) hs hw
 rw[h1]
 exact Yx (hg pins s1 σ H1 x v _ I1 r1 q1) fun _ s2 q=>q
def W1 {i:Nat}{x:Str}{e:Expr}{te:TE}{pos':Pos}(hN:X.N.Nodup)(hi:X.N[i]?=some x)(hx:Zde X.env.scope x)(he:PE X e te)(hs:swapsWith e (some (.Name x pos')) pos.line X.env=pure false:=by rfl)(hf:X.fn x=true\/X.env.scope.names.lookup x=some .local:=by first|exact .inl rfl|exact .inr rfl|assumption):
  PS X (.Assign [.Name x pos'] e pos) (Zjl te (El i)):=by
 intro pins s σ H D I h
 refine wpAny_Assign_Name (Yx (he pins s σ H _ I h) fun v s1 ⟨y,H1,I1,r1,q1⟩=>?_) hs
 exact Gf I1 hN hi hx r1 (fun s2 I2=>⟨_,H1,I2,q1⟩) hf
def Zlq (i j:Nat)(ta:TA):TS:=fun D σ H=>ta σ H fun vs H1=>∃v w,vs=[v,w]/\D.nx ((σ.set i (some v)).set j (some w)) H1
def Zg3 {i j:Nat}{x y:Str}{a b:Expr}{ta:TA}{px py pt:Pos}{kt k2 pt2}(hc:X.calm=true)(hN:X.N.Nodup)(hi:X.N[i]?=some x)(hj:X.N[j]?=some y)(hij:i≠j)(hx:X.env.scope.names.lookup x=some .local)(hy:X.env.scope.names.lookup y=some .local)(ha:PA X [a,b] ta)(hw:swappedStores [.Tuple [.Name x px,.Name y py] kt pt] (.Tuple [a,b] k2 pt2) X.env=pure (some [x,y]))(hs:swapsWithSole [.Tuple [.Name x px,.Name y py] kt pt] (.Tuple [a,b] k2 pt2) pos.line X.env=pure false:=by rfl):
  PS X (.Assign [.Tuple [.Name x px,.Name y py] kt pt] (.Tuple [a,b] k2 pt2) pos) (Zlq i j ta):=by
 intro pins s σ H D I h
 rw[exec_Assign_arm]
 refine wpAny_bind (wpAny_standAt ?_)
 rw[hs]
 refine wpAny_bind (wpAny_pure ?_)
 rw[if_neg (by decide)]
 refine wpAny_bind (Tuple_ (Yx (ha _ pins s σ H _ I h) fun us s1 ⟨vs,H1,I1,r1,q1⟩=>?_))
 obtain⟨v,w,e1,q1⟩:=q1
 subst e1
 obtain⟨u1,u2,rfl,rv,rw'⟩:∃u1 u2,us=[u1,u2]/\RelV v u1/\RelV w u2:=by
  cases r1 with
  |cons p q=>
   cases q with
   |cons p' q'=>
    cases q'
    exact⟨_,_,rfl,p,p'⟩
 refine wpAny_newObj_type ?_ (by show 2<=sizeLine;decide)
 have I2:Inv X pins σ H1 {s1 with heap:=s1.heap.push {cls:=.type "tuple", data:=.seq [u1,u2].toArray}}:=I1.kept (t':=s1.toks) fun b o e=>Heap.get?_push_of_some _ e
 rw[hw]
 refine wpAny_bind (wpAny_pure ?_)
 show wpAny (model X.prog X.w) X.A (do rule "assign.swapped-stores"; let items <-unpackItems (.ref s1.heap.objs.size) 2 none;assignInOrder [fun v=>bindName X.env y v,fun v=>bindName X.env x v] items.reverse;pure Flow.next) _ _ _
 refine wpAny_bind (wpAny_rule (wpAny_bind (unpackItems_tuple (items:=#[u1,u2]) (I.ok.hd hc) (IsTup.new s1.heap _) fun h' hx'=>?_)))
 have I3:=I2.kept (h':=h') (t':=s1.toks) fun b o e=>hx' b o (Nat.ne_of_lt (Heap.lt_size e)) e
 show wpAny _ _ (assignInOrder [fun v=>bindName X.env y v,fun v=>bindName X.env x v] [u2,u1]>>=fun _=>pure Flow.next) _ _ _
 refine wpAny_bind (assignInOrder_cons (wpAny_bindName (Gf I3 hN hj (.inl hy) rw' (fun s2 I4=>?_) (.inr hy))))
 refine assignInOrder_cons (wpAny_bindName (Gf I4 hN hi (.inl hx) rv (fun s3 I5=>assignInOrder_nil (wpAny_pure ?_)) (.inr hx)))
 rw[List.set_comm _ _ (Ne.symm hij)] at I5
 exact⟨_,H1,I5,q1⟩
end
section
variable {X:Cx}{pos:Pos}
def Zg4 (c:TT)(tb:TS):TS:=fun D σ H=>∃W:Nat->St->Hp->Prop,(∃m,W m σ H)/\∀m σ H,W m σ H ->
 c σ H fun b H1=>if b=true then ∃N:St->Hp->Prop,(∀σ' H',N σ' H'->∃m',m'<m/\W m' σ' H')/\tb {D with nx:=N,ct:=N,bk:=D.nx} σ H1 else D.nx σ H1
def B7 {c:Expr}{body:List Stmt}{tc:TT}{tb:TS}(hp:PassesOwn (model X.prog X.w) X.A X.env X.xe)(hc:PT X c tc)(hb:PSs X body tb):PS X (.While c body [] pos) (Zg4 tc tb):=by
 intro pins s σ H D I h
 obtain⟨W,⟨m0,w0⟩,turn⟩:=h
 refine wpAny_While (codeAny_whileLoop (fun n s'=>∃σ' H',Inv X pins σ' H' s'/\W n σ' H') ?_ m0 ⟨σ,H,I,w0⟩)
 rintro n s1 ⟨σ1,H1,I1,w1⟩
 refine wpAny_passesOwn hp (Yx (hc pins s1 σ1 H1 _ I1 (turn n σ1 H1 w1)) fun b s2 ⟨H2,I2,q2⟩=>?_)
 cases b with
 |true=>
  obtain⟨N,hN,q2⟩:=q2
  rw[if_pos rfl]
  refine wpAny_passesOwn hp (Yx (hb pins s2 σ1 H2 _ I2 q2) fun f s3 q3=>?_)
  cases f with
  |next=>
   obtain⟨σ3,H3,I3,n3⟩:=q3
   obtain⟨m',hm,w3⟩:=hN σ3 H3 n3
   exact⟨m',hm,σ3,H3,I3,w3⟩
  |cont=>
   obtain⟨σ3,H3,I3,n3⟩:=q3
   obtain⟨m',hm,w3⟩:=hN σ3 H3 n3
   exact⟨m',hm,σ3,H3,I3,w3⟩
  |brk=>exact q3
  |ret v=>exact q3
 |false=>
  rw[if_neg Bool.false_ne_true]
  exact wpAny_execs_nil ⟨σ1,H2,I2,q2⟩
end
structure It where
 go:Nat->Hp->Prop
 yld:Nat->Hp->V->Hp->Prop
 stop:Nat->Hp->Prop
def Pn (X:Cx)(pins:List (Addr×Obj))(H:Hp)(b:Addr):Prop:=
 H b=none/\b≠X.env.locals/\b ∉ X.fs/\(b∈X.ex\/X.s₀.heap.objs.size<=b)/\(∀x c,X.env.cells.lookup x=some c->c≠b)/\∀p∈X.pn++pins,p.1≠b
def Inv.fpOk {X:Cx}{pins:List (Addr×Obj)}{σ:St}{H H':Hp}{s:Shared}{b:Addr}(I:Inv X pins σ H s)(hb:s.heap.objs.size<=b)(hn:H' b=none):Pn X pins H' b:=by
 refine⟨hn,Nat.ne_of_gt (Nat.lt_of_lt_of_le I.lt hb),I.nofs hb,.inr (Nat.le_trans I.sz hb),fun x c e z=>?_,fun p hp z=>?_⟩
 ·obtain⟨v,q⟩:=I.cell x c e
  exact absurd (Nat.lt_of_lt_of_le q.lt (by rw[z];exact hb)) (Nat.lt_irrefl _)
 ·exact absurd (Nat.lt_of_lt_of_le (Heap.lt_size (I.pin p hp).1) (by rw[z];exact hb)) (Nat.lt_irrefl _)
structure Turn (P:Program) (w:World) (K:PySem.W.Frag) (tg:Expr) (J:It) (fp:List Addr) (it:Addr) (tn:Nat->Heap->Prop):Prop where
 mem:it∈fp
 obj:∀i h,tn i h->∀b∈fp,∃o,h.get? b=some o/\∀v,o.data≠.cell v
 keep:∀i h h',tn i h->(∀b∈fp,∀o,h.get? b=some o->h'.get? b=some o)->tn i h'
 item:∀(X:Cx),X.prog=P->X.w=w->X.K=K->X.calm=true->∀(i:Nat) (pins:List (Addr×Obj)) (s:Shared) (σ:St) (H:Hp) (E:Value->Shared->Prop),Inv X pins σ H s->(∀b∈fp,Pn X pins H b)->tn i s.heap->J.go i H ->
  wpAny (model P w) X.A (pyNext (.ref it)) (fun r s1=>∃u,r=some u /\
   wpAny (model P w) X.A (letOwnedTupleGo tg (.ref it) u) (fun _ s2=>∃x H',Inv X pins σ H' s2/\RelV x u/\J.yld i H x H'/\tn (i+1) s2.heap/\∀b∈fp,H' b=none) E s1) E s
 done:∀(X:Cx),X.prog=P->X.w=w->X.K=K->X.calm=true->∀(i:Nat) (pins:List (Addr×Obj)) (s:Shared) (σ:St) (H:Hp) (E:Value->Shared->Prop),Inv X pins σ H s->(∀b∈fp,Pn X pins H b)->tn i s.heap->J.stop i H ->
  wpAny (model P w) X.A (pyNext (.ref it)) (fun r s1=>r=none/\Inv X pins σ H s1) E s
 self:∀(A:Around) (i:Nat) (s:Shared) (Q:Value->Shared->Prop) (E:Value->Shared->Prop),tn i s.heap->Q (.ref it) s->wpAny (model P w) A (pyIter (.ref it)) Q E s
abbrev TI:=St->Hp->(It->Hp->Prop)->Prop
def Zmn (X:Cx)(pins:List (Addr×Obj))(σ:St)(tg:Expr)(R:It->Hp->Prop)(itv:Value)(s2:Shared):Prop:=
 ∃(it:Addr) (fp:List Addr) (tn:Nat->Heap->Prop) (J:It) (H':Hp),itv=.ref it/\Inv X pins σ H' s2/\Turn X.prog X.w X.K tg J fp it tn/\tn 0 s2.heap/\(∀b∈fp,Pn X pins H' b)/\R J H'
def PI (X:Cx)(tg iter:Expr)(wi:TI):Prop:=
 ∀(pins:List (Addr×Obj)) (s:Shared) (σ:St) (H:Hp) (R:It->Hp->Prop),Inv X pins σ H s->wi σ H R ->
  wpAny (model X.prog X.w) X.A (eval iter X.env) (fun v s1=>wpAny (model X.prog X.w) X.A (pyIter v) (Zmn X pins σ tg R) X.xe s1) X.xe s
def Zaa {M:Model}{A:Around}{E:Value->Shared->Prop}{s:Shared}{tg:Expr}{it:Addr}{u:Value}{o:Obj}{n:String}{vs:Array Value}{Q:Unit->Shared->Prop}(ho:s.heap.get? it=some o)(hc:o.cls=.type n)(hd:o.data=.fields vs)
  (hn:["enumerate","zip","dict_itemiterator","dict_reverseitemiterator","odict_iterator","itertools.zip_longest","itertools.pairwise"].contains n=false) (hQ:Q () s):wpAny M A (letOwnedTupleGo tg (.ref it) u) Q E s:=by
 unfold letOwnedTupleGo
 cases tg<;>first
  |exact wpAny_pure hQ
  |(cases u<;>first
    |exact wpAny_pure hQ
    |(refine wpAny_bind (wpAny_load ho ?_)
      rw[hc,hd]
      show wpAny M A (if(["enumerate","zip","dict_itemiterator","dict_reverseitemiterator","odict_iterator","itertools.zip_longest","itertools.pairwise"].contains n&&vs[0]?==some (rawInt _))=true then _ else _) Q E s
      rw[if_neg (by intro h;rw[hn,Bool.false_and] at h;cases h)]
      exact wpAny_pure hQ))
def Zk6 (K:PySem.W.Frag)(a:Addr):It:=
 ⟨fun i H=>∃xs x,SqL K H a xs/\xs[i]?=some x,fun i H x H'=>H'=H/\∀xs,SqL K H a xs->xs[i]?=some x,fun i H=>∃xs,SqL K H a xs/\xs.length<=i⟩
def Zi4 (K:PySem.W.Frag)(a:Addr):It:=
 ⟨fun i H=>∃xs x,SqT K H a xs/\xs[i]?=some x,fun i H x H'=>H'=H/\∀xs,SqT K H a xs->xs[i]?=some x,fun i H=>∃xs,SqT K H a xs/\xs.length<=i⟩
def Zk7 (lo:Int)(n:Nat):It:=⟨fun i _=>i<n,fun i H x H'=>H'=H/\x=.int (lo+i),fun i _=>n<=i⟩
def Ty {P:Program}{w:World}{K:PySem.W.Frag}{tg:Expr}(a it:Addr):Turn P w K tg (Zk6 K a) [it] it (fun i h=>h.IsListIter it a i) where
 mem:=by simp
 obj:=fun i h st b hb=>by
  have e:b=it:=by simpa using hb
  subst e
  obtain⟨o,e,c,d⟩:=st
  exact⟨o,e,fun v z=>by rw[d] at z;cases z⟩
 keep:=fun i h h' st k=>st.at fun o e=>k it (by simp) o e
 item:=by
  intro X hP hw hK hc i pins s σ H E I hf st hg
  subst hP hw hK
  obtain⟨xs,x,hq,hx⟩:=hg
  obtain⟨its,rv,p,hz⟩:=I.list hq
  obtain⟨u,hu,ru⟩:=rv.get hx
  obtain⟨f0,f1,f2,f3,f4,f5⟩:=hf it (by simp)
  refine wpAny_pyNext_list_item st p.isList (x:=u) (by simpa using hu) fun h' st' sb=>?_
  have I1:Inv X pins σ H {s with heap:=h'}:=I.turned (t':=s.toks) (fun b o hb e=>(sb.2 b hb).trans e) f0 f1 f3 f4 f5
  obtain⟨o,e,c,d⟩:=id st'
  exact⟨u,rfl,Zaa (s:={s with heap:=h'}) e c d (by decide) ⟨x,H,I1,ru,⟨rfl,fun ys hy=>by rw[I.list_inj hy hq];exact hx⟩,st',fun b hb=>(hf b hb).1⟩⟩
 done:=by
  intro X hP hw hK hc i pins s σ H E I hf st hg
  subst hP hw hK
  obtain⟨xs,hq,hx⟩:=hg
  obtain⟨its,rv,p,hz⟩:=I.list hq
  obtain⟨f0,f1,f2,f3,f4,f5⟩:=hf it (by simp)
  have hl:=rv.length
  exact wpAny_pyNext_list_end (I.ok.hd hc) st p.isList (by simp;omega) fun h' eb=>⟨rfl,I.turned (t':=s.toks) (fun b o hb e=>eb b o hb e) f0 f1 f3 f4 f5⟩
 self:=fun _ _ _ _ _ st h=>wpAny_pyIter_listiter st h
def Rg {P:Program}{w:World}{K:PySem.W.Frag}{tg:Expr}(a it:Addr):Turn P w K tg (Zi4 K a) [it] it (fun i h=>h.IsTupleIter it a i) where
 mem:=by simp
 obj:=fun i h st b hb=>by
  have e:b=it:=by simpa using hb
  subst e
  obtain⟨o,e,c,d⟩:=st
  exact⟨o,e,fun v z=>by rw[d] at z;cases z⟩
 keep:=fun i h h' st k=>st.at fun o e=>k it (by simp) o e
 item:=by
  intro X hP hw hK hc i pins s σ H E I hf st hg
  subst hP hw hK
  obtain⟨xs,x,hq,hx⟩:=hg
  obtain⟨its,rv,p,hz⟩:=I.tuple hq
  obtain⟨u,hu,ru⟩:=rv.get hx
  obtain⟨f0,f1,f2,f3,f4,f5⟩:=hf it (by simp)
  refine wpAny_pyNext_tuple_item st (show s.heap.IsTuple a its.toArray from p) (x:=u) (by simpa using hu) fun h' st' sb=>?_
  have I1:Inv X pins σ H {s with heap:=h'}:=I.turned (t':=s.toks) (fun b o hb e=>(sb.2 b hb).trans e) f0 f1 f3 f4 f5
  obtain⟨o,e,c,d⟩:=id st'
  exact⟨u,rfl,Zaa (s:={s with heap:=h'}) e c d (by decide) ⟨x,H,I1,ru,⟨rfl,fun ys hy=>by rw[I.tuple_inj hy hq];exact hx⟩,st',fun b hb=>(hf b hb).1⟩⟩
 done:=by
  intro X hP hw hK hc i pins s σ H E I hf st hg
  subst hP hw hK
  obtain⟨xs,hq,hx⟩:=hg
  obtain⟨its,rv,p,hz⟩:=I.tuple hq
  obtain⟨f0,f1,f2,f3,f4,f5⟩:=hf it (by simp)
  have hl:=rv.length
  exact wpAny_pyNext_tuple_end (I.ok.hd hc) st (show s.heap.IsTuple a its.toArray from p) (by simp;omega) fun h' eb=>⟨rfl,I.turned (t':=s.toks) (fun b o hb e=>eb b o hb e) f0 f1 f3 f4 f5⟩
 self:=fun _ _ _ _ _ st h=>wpAny_pyIter_tupleiter st h
def Da {P:Program}{w:World}{K:PySem.W.Frag}{tg:Expr}(it:Addr)(lo:Int)(n:Nat):Turn P w K tg (Zk7 lo n) [it] it (fun i h=>IsRangeIter h it (lo+(i:Nat)*1) ((n:Int)-(i:Nat)) 1) where
 mem:=by simp
 obj:=fun i h st b hb=>by
  have e:b=it:=by simpa using hb
  subst e
  exact⟨_,st,fun v z=>by
   have z':Data.fields _=Data.cell v:=z
   cases z'⟩
 keep:=fun i h h' st k=>k it (by simp) _ st
 item:=by
  intro X hP hw hK hc i pins s σ H E I hf st hg
  subst hP hw hK
  obtain⟨f0,f1,f2,f3,f4,f5⟩:=hf it (by simp)
  have W:=Walks.range (prog:=X.prog) (w:=X.w) (I.ok.hd hc) it lo 1 n
  refine W.item i s _ _ hg st fun v h' tk hv st' kk=>?_
  obtain⟨t,rfl⟩:=hv
  have I1:Inv X pins σ H {s with heap:=h',toks:=tk}:=I.turned (fun b o hb e=>kk b o (by simpa using hb) e) f0 f1 f3 f4 f5
  refine⟨_,rfl,Zaa (s:={s with heap:=h',toks:=tk}) (n:="range_iterator") st' rfl rfl (by decide) ⟨.int (lo+i),H,I1,⟨t,?_⟩,⟨rfl,rfl⟩,st',fun b hb=>(hf b hb).1⟩⟩
  rw[Int.mul_one]
 done:=by
  intro X hP hw hK hc i pins s σ H E I hf st hg
  subst hP hw hK
  obtain⟨f0,f1,f2,f3,f4,f5⟩:=hf it (by simp)
  exact wpAny_pyNext_range_end (I.ok.hd hc) st (by have:n<=i:=hg;omega) fun h' eb=>⟨rfl,I.turned (t':=s.toks) (fun b o hb e=>eb b o hb e) f0 f1 f3 f4 f5⟩
 self:=fun _ _ _ _ _ st h=>wpAny_pyIter_rangeiter st h
section
variable {X:Cx}{tg:Expr}
def Zjm (K:PySem.W.Frag)(tl:TE):TI:=fun σ H R=>tl σ H fun x H1=>∃a,x=.ref a/\(∃xs,SqL K H1 a xs)/\R (Zk6 K a) H1
def Zlr (K:PySem.W.Frag)(tl:TE):TI:=fun σ H R=>tl σ H fun x H1=>∃a,x=.ref a/\(∃xs,SqT K H1 a xs)/\R (Zi4 K a) H1
def Zdn {l:Expr}{tl:TE}(hl:PE X l tl):PI X tg l (Zjm X.K tl):=by
 intro pins s σ H R I h
 refine Yx (hl pins s σ H _ I h) fun v s1 ⟨x,H1,I1,r1,q1⟩=>?_
 obtain⟨a,e,⟨xs,hq⟩,q⟩:=q1
 subst e
 cases r1
 obtain⟨its,rv,p,hz⟩:=I1.list hq
 refine wpAny_pyIter_list p.isList ?_
 refine⟨s1.heap.objs.size,[s1.heap.objs.size],_,_,H1,rfl,I1.kept (t':=s1.toks) fun b o e=>Heap.get?_push_of_some _ e,Ty a _,⟨_,Heap.get?_push_size _ rfl,rfl,rfl⟩,fun b hb=>?_,q⟩
 have e:b=s1.heap.objs.size:=by simpa using hb
 subst e
 exact I1.fpOk (Nat.le_refl _) (I1.hok.fresh (Nat.le_refl _))
def Zg5 {l:Expr}{tl:TE}(hl:PE X l tl):PI X tg l (Zlr X.K tl):=by
 intro pins s σ H R I h
 refine Yx (hl pins s σ H _ I h) fun v s1 ⟨x,H1,I1,r1,q1⟩=>?_
 obtain⟨a,e,⟨xs,hq⟩,q⟩:=q1
 subst e
 cases r1
 obtain⟨its,rv,p,hz⟩:=I1.tuple hq
 refine wpAny_pyIter_tuple (show s1.heap.IsTuple a its.toArray from p) ?_
 refine⟨s1.heap.objs.size,[s1.heap.objs.size],_,_,H1,rfl,I1.kept (t':=s1.toks) fun b o e=>Heap.get?_push_of_some _ e,Rg a _,⟨_,Heap.get?_push_size _ rfl,rfl,rfl⟩,fun b hb=>?_,q⟩
 have e:b=s1.heap.objs.size:=by simpa using hb
 subst e
 exact I1.fpOk (Nat.le_refl _) (I1.hok.fresh (Nat.le_refl _))
def Zab {pins:List (Addr×Obj)}{σ:St}{H:Hp}{s:Shared}{R:It->Hp->Prop}{E:Value->Shared->Prop}{lo hi:Int}{t u v:Tok}{tk:Nat}(I:Inv X pins σ H s)(h1:-(2 ^ 62)<=lo)(h2:lo<2 ^ 62)(h3:-(2 ^ 62)<=hi)(h4:hi<2 ^ 62)(q:R (Zk7 lo (hi-lo).toNat) H):wpAny (model X.prog X.w) X.A (pyIter (.ref s.heap.objs.size)) (Zmn X pins σ tg R) E {s with heap:=s.heap.push {cls:=.type "range", data:=.fields #[.int lo t,.int hi u,.int 1 v]},toks:=tk}:=by
 refine wpAny_pyIter_range (IsRange.new ..) (small_one h1 h2 h3 h4) ?_
 have I1:Inv X pins σ H {s with heap:=s.heap.push {cls:=.type "range", data:=.fields #[.int lo t,.int hi u,.int 1 v]},toks:=tk}:=I.kept fun b o e=>Heap.get?_push_of_some _ e
 refine⟨(s.heap.push {cls:=.type "range", data:=.fields #[.int lo t,.int hi u,.int 1 v]}).objs.size,[(s.heap.push {cls:=.type "range", data:=.fields #[.int lo t,.int hi u,.int 1 v]}).objs.size],_,_,H,rfl,
  I1.kept (t':=tk) fun b o e=>Heap.get?_push_of_some _ e,Da _ lo (hi-lo).toNat,?_,fun b hb=>?_,q⟩
 ·have e1:lo+((0:Nat):Int)*1=lo:=by simp
  have e2:(((hi-lo).toNat:Nat):Int)-((0:Nat):Int)=Builtin.Range.rangeSize lo hi 1:=by rw[rangeSize_one];split<;>omega
  show IsRangeIter _ _ (lo+((0:Nat):Int)*1) ((((hi-lo).toNat:Nat):Int)-((0:Nat):Int)) 1
  rw[e1,e2]
  exact Heap.get?_push_size _ rfl
 ·have e:b=(s.heap.push {cls:=.type "range", data:=.fields #[.int lo t,.int hi u,.int 1 v]}).objs.size:=by simpa using hb
  subst e
  exact I1.fpOk (Nat.le_refl _) (I1.hok.fresh (Nat.le_refl _))
def Zjn (ta:TA):TI:=fun σ H R=>ta σ H fun vs H1=>∃j:Int,vs=[.int j]/\-(2 ^ 62)<=j/\j<2 ^ 62/\R (Zk7 0 j.toNat) H1
def Ia {a:Expr}{ta:TA}{p pos:Pos} (hg:Gl X "range") (hm:X.mg "range"=none) (ha:PA X [a] ta) (hs:starEach [a] X.env=[(false,eval a X.env)]:=by rfl):PI X tg (.Call (.Name "range" p) [a] [] pos) (Zjn ta):=by
 intro pins s σ H R I h
 refine Call_ (Re I hg hm boot_range (PyProof.Rows.callWith_type1 (Yx (ha pos pins s σ H _ I h) fun us s1 ⟨vs,H1,I1,r1,q1⟩=>?_) hs rfl))
 obtain⟨j,e,q1,q2,q⟩:=q1
 subst e
 cases r1 with
 |cons r rr=>
  cases rr
  obtain⟨t,rfl⟩:=r
  exact call_range_1 (Zab I1 (by omega) (by omega) q1 q2 (by simpa using q))
def Zls (wi:TI)(g:TG)(tb:TS):TS:=fun D σ H=>wi σ H fun J H1=>∃W:Nat->Nat->St->Hp->Prop,(∃m,W 0 m σ H1)/\∀i m σ H,W i m σ H ->
 (J.stop i H/\D.nx σ H)\/(J.go i H/\∃N:St->Hp->Prop,(∀σ' H',N σ' H'->∃m',m'<m/\W (i+1) m' σ' H')/\∀x H',J.yld i H x H'->g x σ H' fun σ2 H2=>tb {D with nx:=N,ct:=N,bk:=D.nx} σ2 H2)
def Ma (fp:List Addr)(h:Heap):List (Addr×Obj):=fp.filterMap fun b=>(h.get? b).map fun o=>(b,o)
def Xp {fp:List Addr}{h:Heap}{b:Addr}{o:Obj}(hb:b∈fp)(e:h.get? b=some o):(b,o)∈Ma fp h:=List.mem_filterMap.mpr ⟨b,hb,by rw[e];rfl⟩
def Ib {fp:List Addr}{h:Heap}{p:Addr×Obj}(hp:p∈Ma fp h):p.1∈fp/\h.get? p.1=some p.2:=by
 obtain⟨b,hb,e⟩:=List.mem_filterMap.mp hp
 cases q:h.get? b with
 |none=>rw[q] at e;cases e
 |some o=>
  rw[q] at e
  have e':(b,o)=p:=Option.some.inj e
  subst e'
  exact⟨hb,q⟩
def Inv.pinned {pins:List (Addr×Obj)}{σ:St}{H:Hp}{s:Shared}{fp:List Addr}(I:Inv X pins σ H s)(hf:∀b∈fp,Pn X pins H b)(ho:∀b∈fp,∃o,s.heap.get? b=some o/\∀v,o.data≠.cell v):Inv X (pins++Ma fp s.heap) σ H s:=
 I.pins_of fun p hp=>(List.mem_append.mp hp).elim (fun z=>I.pin p (List.mem_append_right _ z)) fun z=>by
  obtain⟨hb,e⟩:=Ib z
  obtain⟨f0,f1,f2,_⟩:=hf p.1 hb
  obtain⟨o,e',d⟩:=ho p.1 hb
  rw[e] at e';cases e'
  exact⟨e,f0,f1,f2,d⟩
def Inv.unpinned {pins pl:List (Addr×Obj)}{σ:St}{H:Hp}{s:Shared}(I:Inv X (pins++pl) σ H s):Inv X pins σ H s:=I.pins_of fun p hp=>I.pin p (List.mem_append_right _ (List.mem_append_left _ hp))
def Db {iter:Expr}{body:List Stmt}{wi:TI}{g:TG}{tb:TS}{pos:Pos}(hp:PassesOwn (model X.prog X.w) X.A X.env X.xe)(hc:X.calm=true)(hi:PI X tg iter wi)(hg:PG X tg g)(hb:PSs X body tb)(hs:∀x,foldedSetIterable iter X.env x=pure x:=by intro _;rfl):PS X (.For tg iter body [] pos) (Zls wi g tb):=by
 intro pins s σ H D I h
 refine wpAny_For (Yx (hi pins s σ H _ I h) fun v s1 h1=>Yx h1 fun itv s2 h2=>?_) hs
 obtain⟨it,fp,tn,J,H2,e,I2,T,st2,f2,W,⟨m0,w0⟩,turn⟩:=h2
 subst e
 have stat:∀{H':Hp},(∀b∈fp,H' b=none)->∀b∈fp,Pn X pins H' b:=fun hn b hb=>⟨hn b hb,(f2 b hb).2⟩
 refine codeAny_forLoop_any (fun n s'=>∃i σ' H',Inv X pins σ' H' s'/\tn i s'.heap/\(∀b∈fp,H' b=none)/\W i n σ' H') ?_ m0 ⟨0,σ,H2,I2,st2,fun b hb=>(f2 b hb).1,w0⟩
 rintro n s3 ⟨i,σ3,H3,I3,st3,fr3,w3⟩
 rcases turn i n σ3 H3 w3 with⟨stop,qn⟩|⟨go,N,hN,step⟩
 ·refine wpAny_passesOwn hp (Yx (T.done X rfl rfl rfl hc i pins s3 σ3 H3 X.xe I3 (stat fr3) st3 stop) fun r s4 ⟨hr,I4⟩=>?_)
  subst hr
  exact wpAny_execs_nil ⟨σ3,H3,I4,qn⟩
 ·refine wpAny_passesOwn hp (Yx (T.item X rfl rfl rfl hc i pins s3 σ3 H3 X.xe I3 (stat fr3) st3 go) fun r s4 ⟨u,hr,h4⟩=>?_)
  subst hr
  refine wpAny_passesOwn hp (Yx h4 fun _ s5 ⟨x,H5,I5,r5,y5,st5,fr5⟩=>?_)
  have I5':=I5.pinned (stat fr5) (T.obj _ _ st5)
  refine wpAny_passesOwn hp (Yx (hg _ s5 σ3 H5 x u _ I5' r5 (step x H5 y5)) fun _ s6 ⟨σ6,H6,I6,q6⟩=>?_)
  refine wpAny_passesOwn hp (Yx (hb _ s6 σ6 H6 _ I6 q6) fun f s7 q7=>?_)
  have again:∀{σ7:St}{H7:Hp},Inv X (pins++Ma fp s5.heap) σ7 H7 s7->N σ7 H7->∃m,m<n/\∃i σ' H',Inv X pins σ' H' s7/\tn i s7.heap/\(∀b∈fp,H' b=none)/\W i m σ' H':=fun {σ7 H7} I7 n7=>by
   obtain⟨m',hm,w7⟩:=hN σ7 H7 n7
   refine⟨m',hm,i+1,σ7,H7,I7.unpinned,T.keep _ _ _ st5 fun b hb o e=>(I7.pin (b,o) (List.mem_append_right _ (List.mem_append_right _ (Xp hb e)))).1,fun b hb=>?_,w7⟩
   obtain⟨o,e,d⟩:=T.obj _ _ st5 b hb
   exact(I7.pin (b,o) (List.mem_append_right _ (List.mem_append_right _ (Xp hb e)))).2.1
  cases f with
  |next=>obtain⟨σ7,H7,I7,n7⟩:=q7;exact again I7 n7
  |cont=>obtain⟨σ7,H7,I7,n7⟩:=q7;exact again I7 n7
  |brk=>obtain⟨σ7,H7,I7,q7⟩:=q7;exact⟨σ7,H7,I7.unpinned,q7⟩
  |ret v=>obtain⟨x7,σ7,H7,I7,r7,q7⟩:=q7;exact⟨x7,σ7,H7,I7.unpinned,r7,q7⟩
end
abbrev R2:=V->V->Hp->VK->Prop
def OpR (X:Cx)(f:Value->Value->Sem Value)(r:R2):Prop:=
 ∀(pins:List (Addr×Obj)) (s:Shared) (σ:St) (H:Hp) (x y:V) (v u:Value) (Q:VK),Inv X pins σ H s->RelV x v->RelV y u->r x y H Q ->
  wpAny (model X.prog X.w) X.A (f v u) (EP X pins σ Q) X.xe s
def Zk8 (X:Cx)(f:Value->Sem Value)(r:V->Hp->VK->Prop):Prop:=
 ∀(pins:List (Addr×Obj)) (s:Shared) (σ:St) (H:Hp) (x:V) (v:Value) (Q:VK),Inv X pins σ H s->RelV x v->r x H Q ->
  wpAny (model X.prog X.w) X.A (f v) (EP X pins σ Q) X.xe s
def CallR (X:Cx)(f:Value)(r:List V->Hp->VK->Prop):Prop:=
 ∀(pins:List (Addr×Obj)) (s:Shared) (σ:St) (H:Hp) (xs:List V) (us:List Value) (Q:VK),Inv X pins σ H s->Vals xs us->r xs H Q ->
  wpAny (model X.prog X.w) X.A (call f us) (EP X pins σ Q) X.xe s
def Zi5 (r:R2)(ta tb:TE):TE:=fun σ H Q=>ta σ H fun x H1=>tb σ H1 fun y H2=>r x y H2 Q
def Zm4 (r:V->Hp->VK->Prop)(ta:TE):TE:=fun σ H Q=>ta σ H fun x H1=>r x H1 Q
def rI (C:Int->Int->Prop)(g:Int->Int->V):R2:=fun x y H Q=>∃i j,x=.int i/\y=.int j/\C i j/\Q (g i j) H
def Zdo (g:Int->Int->V):R2:=fun x y H Q=>∃i j,x=.int i/\y=.int j/\Q (g i j) H
def rU (g:Int->V):V->Hp->VK->Prop:=fun x H Q=>∃i,x=.int i/\Q (g i) H
section
variable {X:Cx}{a b c:Expr}{ta tb tc:TE}{pos:Pos}
def Zg6 (ha:PE X a ta)(hb:PE X b tb){pins:List (Addr×Obj)}{s:Shared}{σ:St}{H:Hp}{R:V->V->Hp->Prop}(I:Inv X pins σ H s)(h:ta σ H fun x H1=>tb σ H1 fun y H2=>R x y H2){Q:Value->Shared->Prop}{f:Value->Value->Sem Value}(hf:∀v u s2 x y H2,Inv X pins σ H2 s2->RelV x v->RelV y u->R x y H2->wpAny (model X.prog X.w) X.A (f v u) Q X.xe s2):
  wpAny (model X.prog X.w) X.A (eval a X.env) (fun v s₁=>wpAny (model X.prog X.w) X.A (eval b X.env) (fun u s₂=>wpAny (model X.prog X.w) X.A (f v u) Q X.xe s₂) X.xe s₁) X.xe s:=by
 refine Yx (ha pins s σ H _ I h) fun v s1 ⟨x,H1,I1,r1,q1⟩=>?_
 refine Yx (hb pins s1 σ H1 _ I1 q1) fun u s2 ⟨y,H2,I2,r2,q2⟩=>?_
 exact hf v u s2 x y H2 I2 r1 r2 q2
def Zfy {op:Operator}{r:R2}(ho:OpR X (binaryOp op) r)(ha:PE X a ta)(hb:PE X b tb):PE X (.BinOp a op b pos) (Zi5 r ta tb):=by
 intro pins s σ H Q I h
 exact wpAny_BinOp (Zg6 ha hb I h fun v u s2 x y H2 I2 rx ry q=>ho pins s2 σ H2 x y v u Q I2 rx ry q)
def Zac {op:UnaryOp}{r:V->Hp->VK->Prop}(ho:Zk8 X (unaryOp op) r)(ha:PE X a ta):PE X (.UnaryOp op a pos) (Zm4 r ta):=by
 intro pins s σ H Q I h
 exact UnaryOp_ (Yx (ha pins s σ H _ I h) fun v s1 ⟨x,H1,I1,r1,q1⟩=>ho pins s1 σ H1 x v Q I1 r1 q1)
def Zk9 {f:Value->Value->Sem Value}{C:Int->Int->Prop}{g:Int->Int->Int}(rule:∀(i j:Int) (t u:Tok) (s:Shared) (Q:Value->Shared->Prop) (E:Value->Shared->Prop),C i j->Q (.int (g i j) s.toks) {s with toks:=s.toks+1}->wpAny (model X.prog X.w) X.A (f (.int i t) (.int j u)) Q E s):
  OpR X f (rI C fun i j=>.int (g i j)):=by
 intro pins s σ H x y v u Q I rx ry h
 obtain⟨i,j,rfl,rfl,hc,q⟩:=h
 obtain⟨t,rfl⟩:=rx
 obtain⟨t',rfl⟩:=ry
 exact rule i j t t' s _ _ hc ⟨.int (g i j),H,I.tok _,⟨_,rfl⟩,q⟩
def Zjo {f:Value->Value->Sem Value}{g:Int->Int->Int}(rule:∀(i j:Int) (t u:Tok) (s:Shared) (Q:Value->Shared->Prop) (E:Value->Shared->Prop),Q (.int (g i j) s.toks) {s with toks:=s.toks+1}->wpAny (model X.prog X.w) X.A (f (.int i t) (.int j u)) Q E s):
  OpR X f (Zdo fun i j=>.int (g i j)):=by
 intro pins s σ H x y v u Q I rx ry h
 obtain⟨i,j,rfl,rfl,q⟩:=h
 obtain⟨t,rfl⟩:=rx
 obtain⟨t',rfl⟩:=ry
 exact rule i j t t' s _ _ ⟨.int (g i j),H,I.tok _,⟨_,rfl⟩,q⟩
def Zdp {f:Value->Value->Sem Value}{g:Int->Int->Bool}(rule:∀(i j:Int) (t u:Tok) (s:Shared) (Q:Value->Shared->Prop) (E:Value->Shared->Prop),Q (.bool (g i j)) s->wpAny (model X.prog X.w) X.A (f (.int i t) (.int j u)) Q E s):
  OpR X f (Zdo fun i j=>.bl (g i j)):=by
 intro pins s σ H x y v u Q I rx ry h
 obtain⟨i,j,rfl,rfl,q⟩:=h
 obtain⟨t,rfl⟩:=rx
 obtain⟨t',rfl⟩:=ry
 exact rule i j t t' s _ _ ⟨.bl (g i j),H,I,rfl,q⟩
def Zlt (i j:Int):Prop:=0<=j/\j<=1000000/\i.natAbs<2 ^ 64
def op_add:OpR X (binaryOp .Add) (Zdo fun i j=>.int (i+j)):=Zjo fun _ _ _ _ _ _ _ q=>add_int q
def Zg7:OpR X (binaryOp .Sub) (Zdo fun i j=>.int (i-j)):=Zjo fun _ _ _ _ _ _ _ q=>sub_int q
def Zdq:OpR X (binaryOp .Mod) (rI (fun _ j=>j≠0) fun i j=>.int (i.fmod j)):=Zk9 fun _ _ _ _ _ _ _ hc q=>mod_int' hc q
def Zg8:OpR X (binaryOp .Pow) (rI Zlt fun i j=>.int (i ^ j.toNat)):=Zk9 fun _ _ _ _ _ _ _ hc q=>pow_int_small hc.1 hc.2.1 hc.2.2 q
def Zm5 {f:Value->Sem Value}{g:Int->Int}(rule:∀(i:Int) (t:Tok) (s:Shared) (Q:Value->Shared->Prop) (E:Value->Shared->Prop),Q (.int (g i) s.toks) {s with toks:=s.toks+1}->wpAny (model X.prog X.w) X.A (f (.int i t)) Q E s):
  Zk8 X f (rU fun i=>.int (g i)):=by
 intro pins s σ H x v Q I rx h
 obtain⟨i,rfl,q⟩:=h
 obtain⟨t,rfl⟩:=rx
 exact rule i t s _ _ ⟨.int (g i),H,I.tok _,⟨_,rfl⟩,q⟩
def Zad:Zk8 X (unaryOp .USub) (rU fun i=>.int (-i)):=Zm5 fun _ _ _ _ _ q=>neg_int q
end
section
variable {X:Cx}{a b c:Expr}{ta tb tc:TE}{pos:Pos}
def Zae {pins:List (Addr×Obj)}{σ:St}{H:Hp}{s:Shared}{Q:VK}{k k':Bool}(I:Inv X pins σ H s)(q:Q (.bl k) H)(e:k=k'):EP X pins σ Q (.bool k') s:=by
 subst e
 exact⟨.bl k,H,I,rfl,q⟩
def Zjp:OpR X (compareOp .Lt) (Zdo fun i j=>.bl (decide (i<j))):=Zdp fun _ _ _ _ _ _ _ q=>lt_int q
def Zjq:OpR X (compareOp .LtE) (Zdo fun i j=>.bl (decide (i<=j))):=Zdp fun _ _ _ _ _ _ _ q=>le_int q
def Zjr:OpR X (compareOp .Gt) (Zdo fun i j=>.bl (decide (j<i))):=Zdp fun _ _ _ _ _ _ _ q=>gt_int q
def Zjs:OpR X (compareOp .GtE) (Zdo fun i j=>.bl (decide (j<=i))):=Zdp fun _ _ _ _ _ _ _ q=>ge_int q
def Zg9:OpR X (compareOp .Is) (fun x y H Q=>y=.non/\Q (.bl (decide (x=.non))) H):=by
 intro pins s σ H x y v u Q I rx ry h
 obtain⟨rfl,q⟩:=h
 cases ry
 refine is_none_gen (Zae I q ?_)
 cases x<;>first
  |(cases rx;rfl)
  |(obtain⟨t,rfl⟩:=rx;rfl)
def Zdr:OpR X (compareOp .IsNot) (fun x y H Q=>y=.non/\Q (.bl (!decide (x=.non))) H):=by
 intro pins s σ H x y v u Q I rx ry h
 obtain⟨rfl,q⟩:=h
 cases ry
 refine isnot_none_gen (Zae I q ?_)
 cases x<;>first
  |(cases rx;rfl)
  |(obtain⟨t,rfl⟩:=rx;rfl)
def OpR.or {f:Value->Value->Sem Value}{r r':R2}(h:OpR X f r)(h':OpR X f r'):OpR X f (fun x y H Q=>r x y H Q\/r' x y H Q):=by
 intro pins s σ H x y v u Q I rx ry q
 rcases q with q|q
 ·exact h pins s σ H x y v u Q I rx ry q
 ·exact h' pins s σ H x y v u Q I rx ry q
def Zy (b:Expr){op:CmpOp}(h:op≠.In:=by decide)(h2:op≠.NotIn:=by decide):behindInMarks op b=false:=by
 have e1:(op==CmpOp.In)=false:=by cases op<;>first|rfl|exact absurd rfl h
 have e2:(op==CmpOp.NotIn)=false:=by cases op<;>first|rfl|exact absurd rfl h2
 cases b<;>simp[behindInMarks,e1,e2]
def Zds {op:CmpOp}{r:R2}(ho:OpR X (compareOp op) r)(ha:PE X a ta)(hb:PE X b tb)(hm:behindInMarks op b=false):PE X (.Compare a [op] [b] pos) (Zi5 r ta tb):=by
 intro pins s σ H Q I h
 exact wpAny_Compare1 (Zg6 ha hb I h fun v u s2 x y H2 I2 rx ry q=>ho pins s2 σ H2 x y v u Q I2 rx ry q) hm
def Zjt (t:TE):TT:=fun σ H Q=>t σ H fun x H'=>∃k,x=.bl k/\Q k H'
def Eo {op:CmpOp}{r:R2}(ho:OpR X (compareOp op) r)(ha:PE X a ta)(hb:PE X b tb)(hm:behindInMarks op b=false):PT X (.Compare a [op] [b] pos) (Zjt (Zi5 r ta tb)):=by
 intro pins s σ H Q I h
 refine wpAny_isTrue_Compare1 (Yx (ha pins s σ H _ I h) fun v s1 ⟨x,H1,I1,r1,q1⟩=>Yx (hb pins s1 σ H1 _ I1 q1) fun u s2 ⟨y,H2,I2,r2,q2⟩=>
  Yx (ho pins s2 σ H2 x y v u _ I2 r1 r2 q2) fun c s3 ⟨z,H3,I3,r3,k,e,q3⟩=>?_) hm
 subst e
 cases r3
 exact wpAny_truthy_bool ⟨H3,I3,q3⟩
def Rh:(sizeLine:Nat)<2 ^ 63:=by rw[sizeLine_eq];decide
def Dc:OpR X (binaryOp .Add) (fun x y H Q=>∃i j,x=.str i/\y=.str j/\i.length+j.length<=sizeLine/\Q (.str (i++j)) H):=by
 intro pins s σ H x y v u Q I rx ry h
 obtain⟨i,j,rfl,rfl,hz,q⟩:=h
 obtain⟨t,rfl⟩:=rx
 obtain⟨t',rfl⟩:=ry
 exact add_str (fun t' tk=>⟨.str (i++j),H,I.tok _,⟨_,rfl⟩,q⟩) hz
def U5 {x:V}{us:List Value}(r:Vals [x] us):∃u,us=[u]/\RelV x u:=by
 cases r with
 |cons r1 r2=>cases r2;exact⟨_,rfl,r1⟩
def Zaf {x y:V}{us:List Value}(r:Vals [x,y] us):∃u w',us=[u,w']/\RelV x u/\RelV y w':=by
 cases r with
 |cons r1 r2=>
  cases r2 with
  |cons r3 r4=>cases r4;exact⟨_,_,rfl,r1,r3⟩
def Zag:CallR X (.builtin "abs") (fun xs H Q=>∃i,xs=[.int i]/\Q (.int (if i<0 then -i else i)) H):=by
 intro pins s σ H xs us Q I r h
 obtain⟨i,rfl,q⟩:=h
 obtain⟨u,rfl,t,rfl⟩:=U5 r
 exact call_abs_int fun u tk=>⟨.int (if i<0 then -i else i),H,I.tok _,⟨_,rfl⟩,q⟩
def Ic (hc:X.calm=true):CallR X (.builtin "max") (fun xs H Q=>∃i j,xs=[.int i,.int j]/\Q (.int (if j > i then j else i)) H):=by
 intro pins s σ H xs us Q I r h
 obtain⟨i,j,rfl,q⟩:=h
 obtain⟨u,w',rfl,⟨t,rfl⟩,⟨t',rfl⟩⟩:=Zaf r
 refine max_two_ints (I.ok.hd hc) fun h' tk k=>⟨_,H,I.kept k,?_,q⟩
 by_cases hj:j > i
 ·rw[if_pos hj,if_pos hj];exact⟨_,rfl⟩
 ·rw[if_neg hj,if_neg hj];exact⟨_,rfl⟩
def Id:CallR X (.type "int") (fun xs H Q=>(∃i,xs=[.int i]/\Q (.int i) H)\/∃k,xs=[.bl k]/\Q (.int (if k then 1 else 0)) H):=by
 intro pins s σ H xs us Q I r h
 rcases h with⟨i,rfl,q⟩|⟨k,rfl,q⟩
 ·obtain⟨u,rfl,t,rfl⟩:=U5 r
  exact call_int_int ⟨.int i,H,I,⟨_,rfl⟩,q⟩
 ·obtain⟨u,rfl,r1⟩:=U5 r
  cases r1
  exact call_int_bool ⟨.int (if k then 1 else 0),H,I.tok _,⟨_,rfl⟩,q⟩
end
structure ObjM (h:Heap) (x dx C:Addr) (mA:Str->Option Value):Prop where
 obj:h.get? x=some (PySem.W.instObj C dx)
 ns:h.Ns1 dx mA
 ne:dx≠x
def Ie {h:Heap}{dx:Addr}{mA:Str->Option Value}(n:h.Ns1 dx mA):∃od,h.get? dx=some od/\∀name,PySem.W.lookIn name od=some (mA name):=by
 obtain⟨o,es,ep,ho,hd,hk,_,hm⟩:=n
 refine⟨o,ho,fun name=>?_⟩
 have e:=hm name
 unfold nsFind findBy at e
 rw[<-Array.find?_toList] at e
 unfold PySem.W.lookIn
 rw[hd]
 dsimp only
 split
 ·rename_i y q
  rw[q] at e
  exact congrArg some e
 ·rename_i q
  rw[q] at e
  have a:es.toList.any (·.refKey)=false:=by
   rw[List.any_eq_false]
   intro y hy
   obtain⟨z,t,hkey⟩:=hk y (Array.mem_toList_iff.mp hy)
   simp[DictEntry.refKey,hkey]
  have a':¬es.toList.any (·.refKey)=true:=by rw[a];exact Bool.false_ne_true
  rw[if_neg a']
  exact congrArg some e
def ObjM.look {h:Heap}{x dx C:Addr}{mA:Str->Option Value}(I:ObjM h x dx C mA):∃od,PySem.W.InstAt h x (PySem.W.instObj C dx) C (some od)/\∀name,PySem.W.lookIn name od=some (mA name):=
 let ⟨od,ho,hl⟩:=Ie I.ns
 ⟨od,⟨I.obj,rfl,rfl,ho⟩,hl⟩
section
variable {prog:Program}{w:World}{A:Around}{E:Value->Shared->Prop}{s:Shared}{K:PySem.W.Frag}{x dx C f:Addr}{mA:Str->Option Value}{name:Str}{v:Value}
def Zdt {expr:Bool}{Q:Value->Shared->Prop}(X:K.In s.heap)(I:ObjM s.heap x dx C mA)(hg:PySem.W.plainGet K C name=true)(hh:PySem.W.hasDictIn K C=true)(ha:PySem.W.findIn K (.ref C) name=some none)(hv:mA name=some v)(hv':PySem.W.handedIn v=true)(h:Q v {s with toks:=s.toks+1}):
  wpAny (model prog w) A (getAttr (.ref x) name expr) Q E s:=by
 obtain⟨od,J,hl⟩:=I.look
 exact PySem.W.get_value X J (PySem.W.plainGet_of hg).1 (PySem.W.findObj_own hh ha rfl (by rw[hl,hv])) hv' h
def Zah {pl:Sem Bool}{Q:Value×List Value->Shared->Prop}(X:K.In s.heap)(I:ObjM s.heap x dx C mA)(hg:PySem.W.plainGet K C name=true)(hf:PySem.W.findIn K (.ref C) name=some (some (.ref f)))(ht:PySem.W.isFn K (.ref f)=true)(hv:mA name=none)(h:Q (.ref f,[.ref x]) s):
  wpAny (model prog w) A (getMethod (.ref x) name pl) Q E s:=by
 obtain⟨od,J,hl⟩:=I.look
 exact PySem.W.method_fn X J (PySem.W.plainGet_of hg).1 (PySem.W.plainGet_of hg).2 hf (beq_iff_eq.mp ht) (by show(PySem.W.lookIn name od).map (·.isSome)=some false;rw[hl,hv];rfl) h
def Zdu {ns:List Str}{Q:Unit->Shared->Prop}(X:K.In s.heap)(I:ObjM s.heap x dx C mA)
  (hs:PySem.W.findIn K (.ref C) "__setattr__"=some (some (.builtin "object.__setattr__"))) (hp:PySem.W.plainOver K C=true) (ht:PySem.W.takerIn K C name=some none) (hh:PySem.W.hasDictIn K C=true)
  (hw:PySem.Within mA ns) (hsz:ns.length<=sizeLine)
  (h:∀h',ObjM h' x dx C (fun y=>if y=name then some v else mA y)->Heap.SameBut dx s.heap h'->Q () {s with heap:=h',toks:=s.toks+2}):
  wpAny (model prog w) A (setAttr (.ref x) name v) Q E s:=by
 obtain⟨od,J,hl⟩:=I.look
 refine PySem.W.set_plain X J hs (PySem.W.osa_open (s:={s with toks:=s.toks+1}) (r:=none) X J hp ht fun b=>?_)
 obtain⟨cd,hc,hd'⟩:=PySem.W.any_some hh
 have hx:s.heap.get? x=some ⟨.ref C,some dx,.plain,#[]⟩:=I.obj
 refine wpAny_bind (wpAny_pure (wpAny_bind (wpAny_bind (wpAny_loadPart hx (wpAny_bind (PySem.W.Looks.here (s:={s with toks:=s.toks+1}) (PySem.W.looks_clsIn X hc) ?_))))))
 rw[hd']
 refine wpAny_pure (a:=some dx) (wpAny_bind (wpAny_pure (wpAny_bind ?_)))
 refine wpAny_nsSet1 (s:={s with toks:=s.toks+1}) I.ns fun h' hn2 hs2=>?_
 obtain⟨oD,esD,epD,hoD,hdD,hcD⟩:=hn2.count (PySem.Within.cons name v hw)
 refine wpAny_bind (wpAny_lookBehind hoD (by rw[hdD];exact pastItsLine_dict (Nat.le_trans hcD (by rw[List.length_cons];omega))) ?_)
 exact wpAny_pure (h _ ⟨(hs2.2 _ (Ne.symm I.ne)).trans I.obj,hn2,I.ne⟩ hs2)
def Zai {R:Result->Shared->Prop}{vs:List Value}{kw:List (Str×Value)}(X:K.In s.heap)(hm:PySem.W.makesIn K C=true)
  (hi:PySem.W.findIn K (.ref C) "__init__"=some (some (.ref f))) (hf:PySem.W.typeIn K (.ref f)=some (.type "function"))
  (h:codeAny (model prog w) (A.under (.builtin "type.__call__" ⟨.ref C::vs,kw⟩)) (.call (.ref f) ⟨.ref (s.heap.objs.size+1)::vs,kw⟩) (PySem.W.InitBack (s.heap.objs.size+1) R)
   {s with heap:=(s.heap.push PySem.W.emptyDict).push (PySem.W.instObj C s.heap.objs.size)}):
  codeAny (model prog w) A (.call (.ref C) ⟨vs,kw⟩) R s:=by
 obtain⟨hh,g,d,t,os⟩:=s
 exact PySem.W.make_core (PySem.W.makes_of X hm) (PySem.W.looks_findIn X hi) (fun self=>PySem.W.bind_fn X self hf) (.inl rfl) h
end
def Ym (f:Str)(v:V):List (Str×V)->List (Str×V)
 |[]=>[(f,v)]
 |(g,x)::r=>if g=f then(g,v)::r else(g,x)::Ym f v r
theorem Qx (f g:Str)(v:V):∀fs:List (Str×V),(Ym f v fs).lookup g=if g=f then some v else fs.lookup g
 |[]=>by
  show List.lookup g [(f,v)]=_
  by_cases h:g=f
  ·have hb:(g==f)=true:=beq_iff_eq.mpr h
   simp only[List.lookup,hb,if_pos h]
  ·have hb:(g==f)=false:=beq_eq_false_iff_ne.mpr h
   simp only[List.lookup,hb,if_neg h]
 |(k,x)::r=>by
  have ih:=Qx f g v r
  rw[show Ym f v ((k,x)::r)=(if k=f then(k,v)::r else(k,x)::Ym f v r) from rfl]
  by_cases hk:k=f
  ·rw[if_pos hk]
   by_cases h:g=k
   ·have hb:(g==k)=true:=beq_iff_eq.mpr h
    simp only[List.lookup,hb,if_pos (h.trans hk)]
   ·have hb:(g==k)=false:=beq_eq_false_iff_ne.mpr h
    simp only[List.lookup,hb,if_neg (fun e:g=f=>h (e.trans hk.symm))]
  ·rw[if_neg hk]
   by_cases h:g=k
   ·have hb:(g==k)=true:=beq_iff_eq.mpr h
    simp only[List.lookup,hb,if_neg (fun e:g=f=>hk (h.symm.trans e))]
   ·have hb:(g==k)=false:=beq_eq_false_iff_ne.mpr h
    simp only[List.lookup,hb]
    exact ih
theorem Ni (f:Str)(v:V):∀fs:List (Str×V),f∈(Ym f v fs).map (·.1)/\∀g,g∈fs.map (·.1)->g∈(Ym f v fs).map (·.1)
 |[]=>⟨by simp[Ym],fun g h=>by simp at h⟩
 |(k,x)::r=>by
  obtain⟨i1,i2⟩:=Ni f v r
  rw[show Ym f v ((k,x)::r)=(if k=f then(k,v)::r else(k,x)::Ym f v r) from rfl]
  by_cases hk:k=f
  ·rw[if_pos hk]
   subst hk
   exact⟨by simp,fun g h=>by simpa using h⟩
  ·rw[if_neg hk]
   refine⟨?_,fun g h=>?_⟩
   ·rw[List.map_cons]
    exact List.mem_cons_of_mem _ i1
   ·rw[List.map_cons] at h ⊢
    rcases List.mem_cons.mp h with e|e
    ·exact List.mem_cons.mpr (.inl e)
    ·exact List.mem_cons_of_mem _ (i2 g e)
theorem Pg (f:Str)(v:V):∀fs:List (Str×V),(Ym f v fs).length<=fs.length+1
 |[]=>by simp[Ym]
 |(k,x)::r=>by
  have ih:=Pg f v r
  rw[show Ym f v ((k,x)::r)=(if k=f then(k,v)::r else(k,x)::Ym f v r) from rfl]
  by_cases hk:k=f
  ·rw[if_pos hk,List.length_cons,List.length_cons];omega
  ·rw[if_neg hk,List.length_cons,List.length_cons];omega
def RelO.some_of {v:V}{o:Option Value}(r:RelO (some v) o):∃u,o=some u/\RelV v u:=by
 cases o with
 |none=>exact(show False from r).elim
 |some u=>exact⟨u,rfl,r⟩
def RelO.none_of {o:Option Value}(r:RelO none o):o=none:=by
 cases o with
 |none=>rfl
 |some u=>exact(show False from r).elim
def Ig {v:V}{u:Value}(r:RelV v u):PySem.W.handedIn u=true:=by
 cases v with
 |non=>cases (show u=Value.none from r);rfl
 |bl b=>cases (show u=Value.bool b from r);rfl
 |int i=>obtain⟨t,e⟩:=(show ∃t,u=Value.int i t from r);cases e;rfl
 |str x=>obtain⟨t,e⟩:=(show ∃t,u=Value.str x t from r);cases e;rfl
 |byt b=>obtain⟨t,e⟩:=(show ∃t,u=Value.bytes b t from r);cases e;rfl
 |flt b=>obtain⟨t,e⟩:=(show ∃t,u=Value.float b t from r);cases e;rfl
 |ref a=>cases (show u=Value.ref a from r);rfl
 |ty n=>cases (show u=Value.type n from r);rfl
section
variable {P:Program}{w:World}{H H':Hp}{h h':Heap}{a C dx:Addr}{fs fs':List (Str×V)}
def Mb (hok:HOk P w H h)(e:H a=some (.ins C dx fs)):∃mA,ObjM h a dx C mA/\(∀f,RelO (fs.lookup f) (mA f))/\PySem.Within mA (fs.map (·.1))/\fs.length<=1000/\H dx=some (.own a):=by
 obtain⟨d,z,ne,ob,mA,n,r,q⟩:=(show ObjOk P w H h a (.ins C dx fs) from hok a _ e)
 exact⟨mA,⟨ob,n,ne⟩,r,q,z,d⟩
end
structure Cls (K:PySem.W.Frag) (C:Addr):Prop where
 pg:PySem.W.plainGet K C Str.empty=true
 hd:PySem.W.hasDictIn K C=true
 po:PySem.W.plainOver K C=true
 sa:PySem.W.findIn K (.ref C) "__setattr__"=some (some (.builtin "object.__setattr__"))
def Cls.get {K:PySem.W.Frag}{C:Addr}(c:Cls K C)(f:Str):PySem.W.plainGet K C f=true:=c.pg
def NoAttr (K:PySem.W.Frag)(C:Addr)(f:Str):Prop:=PySem.W.findIn K (.ref C) f=some none
def NoAttr.taker {K:PySem.W.Frag}{C:Addr}{f:Str}(n:NoAttr K C f):PySem.W.takerIn K C f=some none:=by
 unfold PySem.W.takerIn
 rw[show PySem.W.findIn K (.ref C) f=some none from n]
 rfl
structure Meth (K:PySem.W.Frag) (C:Addr) (m:Str) (f:Addr):Prop where
 at_:PySem.W.findIn K (.ref C) m=some (some (.ref f))
 fn:PySem.W.isFn K (.ref f)=true
 kp:PySem.W.keepIn K (.ref f)=true
section
variable {X:Cx}{pins:List (Addr×Obj)}{σ:St}{H:Hp}{s:Shared}{a C dx:Addr}{fs:List (Str×V)}{f:Str}{v:V}{A:Around}{E:Value->Shared->Prop}
def Ri {b:Bool}{Q:Value->Shared->Prop}(I:Inv X pins σ H s)(e:H a=some (.ins C dx fs))(c:Cls X.K C)(n:NoAttr X.K C f)(l:fs.lookup f=some v)(h:∀u s',Inv X pins σ H s'->RelV v u->Q u s'):wpAny (model X.prog X.w) A (getAttr (.ref a) f b) Q E s:=by
 obtain⟨mA,O,r,_,_,_⟩:=Mb I.hok e
 obtain⟨u,hu,ru⟩:=RelO.some_of (v:=v) (o:=mA f) (by rw[<-l];exact r f)
 exact Zdt I.kIn O (c.get f) c.hd n hu (Ig ru) (h u _ (I.tok _) ru)
def Rj {m:Str}{g:Addr}{pl:Sem Bool}{Q:Value×List Value->Shared->Prop}(I:Inv X pins σ H s)(e:H a=some (.ins C dx fs))(c:Cls X.K C)(k:Meth X.K C m g)(l:fs.lookup m=none)(h:Q (.ref g,[.ref a]) s):wpAny (model X.prog X.w) A (getMethod (.ref a) m pl) Q E s:=by
 obtain⟨mA,O,r,_,_,_⟩:=Mb I.hok e
 have hn:mA m=none:=RelO.none_of (by rw[<-l];exact r m)
 exact Zah I.kIn O (c.get m) k.at_ k.fn hn h
def Rk {y:V}{u:Value}{Q:Unit->Shared->Prop}(I:Inv X pins σ H s)(e:H a=some (.ins C dx fs))(c:Cls X.K C)(n:NoAttr X.K C f)(hl:fs.length<1000)(ry:RelV y u)(h:∀s',Inv X pins σ (upd H a (.ins C dx (Ym f y fs))) s'->Q () s'):wpAny (model X.prog X.w) A (setAttr (.ref a) f u) Q E s:=by
 obtain⟨mA,O,r,wi,_,ho⟩:=Mb I.hok e
 have hz:(fs.map (·.1)).length<=sizeLine:=by rw[List.length_map,sizeLine_eq];omega
 refine Zdu I.kIn O c.sa c.po n.taker c.hd wi hz fun h' O' sb=>h _ ?_
 have hd:∃o,h'.get? dx=some o:=let ⟨o,_,_,e',_⟩:=O'.ns;⟨o,e'⟩
 refine I.write (x:=a) (e:=dx) (by rw[e];exact True.intro) (.inr ho) (fun b q hb z=>(sb.2 b hb).trans z) hd ?_
 refine⟨by rw[Zn O.ne];exact ho,?_,O.ne,O'.obj,_,O'.ns,fun g=>?_,fun g hg=>?_⟩
 ·have:=Pg f y fs;omega
 ·show RelO ((Ym f y fs).lookup g) (if g=f then some u else mA g)
  rw[Qx]
  by_cases q:g=f
  ·rw[if_pos q,if_pos q];exact ry
  ·rw[if_neg q,if_neg q];exact r g
 ·by_cases q:g=f
  ·rw[q];exact(Ni f y fs).1
  ·refine(Ni f y fs).2 g (wi g fun z=>hg ?_)
   show(if g=f then some u else mA g)=none
   rw[if_neg q];exact z
def Inv.made (I:Inv X pins σ H s):Inv X pins σ (upd (upd H s.heap.objs.size (.own (s.heap.objs.size+1))) (s.heap.objs.size+1) (.ins C s.heap.objs.size []))
  {s with heap:=(s.heap.push PySem.W.emptyDict).push (PySem.W.instObj C s.heap.objs.size)}:=by
 have e1:(s.heap.push PySem.W.emptyDict).get? s.heap.objs.size=some PySem.W.emptyDict:=Heap.get?_push_size s.heap rfl
 have e2:((s.heap.push PySem.W.emptyDict).push (PySem.W.instObj C s.heap.objs.size)).get? (s.heap.objs.size+1)=some (PySem.W.instObj C s.heap.objs.size):=by
  have:=Heap.get?_push_size (s.heap.push PySem.W.emptyDict) (o:=PySem.W.instObj C s.heap.objs.size) rfl
  rwa[Heap.size_push] at this
 have e3:(s.heap.push PySem.W.emptyDict).Ns s.heap.objs.size (fun _=>none):=⟨PySem.W.emptyDict,#[],_,e1,rfl,(fun e he=>absurd he (by simp)),fun _=>rfl⟩
 have I1:=I.laid (a:=s.heap.objs.size) (o:=.own (s.heap.objs.size+1)) (h':=s.heap.push PySem.W.emptyDict) (t':=s.toks) (fun b u q=>Heap.get?_push_of_some _ q) (Nat.le_refl _) ⟨_,e1⟩
 refine I1.laid (a:=s.heap.objs.size+1) (o:=.ins C s.heap.objs.size []) (t':=s.toks) (fun b u q=>Heap.get?_push_of_some _ q) (Nat.le_of_eq (Heap.size_push _ _)) ?_
 have ne:s.heap.objs.size≠s.heap.objs.size+1:=Nat.ne_of_lt (Nat.lt_succ_self _)
 refine⟨by rw[Zn ne,Zu],Nat.zero_le _,ne,e2,fun _=>none,(Heap.Ns1.of_empty e3).at fun o q=>Heap.get?_push_of_some _ q,fun _=>True.intro,fun y hy=>absurd rfl hy⟩
def Zdv {prog:Program}{w:World}{env:Env}{e:Expr}{f:Str}{pos:Pos}{s:Shared}{Q:Value->Shared->Prop}(hb:attributeBase e f env (eval e env)=eval e env)(h:wpAny (model prog w) A (eval e env) (fun o s₁=>wpAny (model prog w) A (getAttr o f true) Q E s₁) E s):wpAny (model prog w) A (eval (.Attribute e f pos) env) Q E s:=
 Attribute_any_ h (by rw[arm_eval_Attribute,hb])
end
def Zlu (K:PySem.W.Frag)(ta:TE)(f:Str):TE:=fun σ H Q=>ta σ H fun x H1=>∃a C dx fs v,x=.ref a/\H1 a=some (.ins C dx fs)/\Cls K C/\NoAttr K C f/\fs.lookup f=some v/\Q v H1
def Zlv (K:PySem.W.Frag)(ta tv:TE)(f:Str):TS:=fun D σ H=>tv σ H fun y H1=>ta σ H1 fun x H2=>∃a C dx fs,x=.ref a/\H2 a=some (.ins C dx fs)/\Cls K C/\NoAttr K C f/\fs.length<1000 /\
 D.nx σ (upd H2 a (.ins C dx (Ym f y fs)))
def Zju (X:Cx)(op:Operator)(rd:V->V->Hp->VK->Prop):Prop:=
 ∀(pins:List (Addr×Obj)) (s:Shared) (σ:St) (H:Hp) (x y:V) (u v:Value) (Q:VK),Inv X pins σ H s->RelV x u->RelV y v->rd x y H Q->wpAny (model X.prog X.w) X.A (inplaceOp op u v) (EP X pins σ Q) X.xe s
def Zdw (K:PySem.W.Frag)(ta tv:TE)(rd:V->V->Hp->VK->Prop)(f:Str):TS:=fun D σ H=>ta σ H fun x H1=>∃a C dx fs v,x=.ref a/\H1 a=some (.ins C dx fs)/\Cls K C/\NoAttr K C f/\fs.lookup f=some v /\
 tv σ H1 fun y H2=>rd v y H2 fun z H3=>∃dx' fs',H3 a=some (.ins C dx' fs')/\fs'.length<1000/\D.nx σ (upd H3 a (.ins C dx' (Ym f z fs')))
section
variable {X:Cx}{o e value:Expr}{f:Str}{pos pos' tpos:Pos}{ta tv:TE}
def U6 (he:PE X e ta)(hb:attributeBase e f X.env (eval e X.env)=eval e X.env):PE X (.Attribute e f pos) (Zlu X.K ta f):=by
 intro pins s σ H Q I h
 refine Zdv hb (Yx (he pins s σ H _ I h) fun u s1 ⟨x,H1,I1,rx,a,C,dx,fs,v,ex,ea,c,n,l,q⟩=>?_)
 subst ex
 obtain rfl:u=Value.ref a:=rx
 exact Ri I1 ea c n l fun u' s2 I2 ru=>⟨v,H1,I2,ru,q⟩
def Mc (ha:PE X o ta)(hv:PE X value tv)(hs:swapsWith value (some (.Attribute o f pos')) pos.line X.env=pure false):PS X (.Assign [.Attribute o f pos'] value pos) (Zlv X.K ta tv f):=by
 intro pins s σ H D I h
 refine plainObj_wpAny_Assign_Attribute (Yx (hv pins s σ H _ I h) fun u s1 ⟨y,H1,I1,ry,q⟩=>Yx (ha pins s1 σ H1 _ I1 q) fun ov s2 ⟨x,H2,I2,rx,a,C,dx,fs,ex,ea,c,n,l,q2⟩=>?_) hs
 subst ex
 obtain rfl:ov=Value.ref a:=rx
 exact Rk I2 ea c n l ry fun s3 I3=>⟨σ,_,I3,q2⟩
def Ih {op:Operator}{rd:V->V->Hp->VK->Prop}(ha:PE X o ta)(hv:PE X value tv)(hop:Zju X op rd):PS X (.AugAssign (.Attribute o f tpos) op value pos) (Zdw X.K ta tv rd f):=by
 intro pins s σ H D I h
 refine wpAny_AugAssign_AttributeAny (Yx (ha pins s σ H _ I h) fun ov s1 ⟨x,H1,I1,rx,a,C,dx,fs,v,ex,ea,c,n,l,q⟩=>?_)
 subst ex
 obtain rfl:ov=Value.ref a:=rx
 refine Ri I1 ea c n l fun u s2 I2 ru=>Yx (hv pins s2 σ H1 _ I2 q) fun w3 s3 ⟨y,H2,I3,ry,q3⟩=>Yx (hop pins s3 σ H2 v y u w3 _ I3 ru ry q3) fun w4 s4 ⟨z,H3,I4,rz,dx',fs',ea',l',q4⟩=>?_
 exact Rk I4 ea' c n l' rz fun s5 I5=>⟨σ,_,I5,q4⟩
def Zlw:V->V->Hp->VK->Prop:=fun x y H Q=>∃i j,x=.int i/\y=.int j/\Q (.int (i+j)) H
def Zha:Zju X .Add Zlw:=by
 rintro pins s σ H x y u v Q I rx ry ⟨i,j,rfl,rfl,q⟩
 obtain⟨t,rfl⟩:=(show ∃t,u=Value.int i t from rx)
 obtain⟨t',rfl⟩:=(show ∃t',v=Value.int j t' from ry)
 exact PyProof.Rows.iadd_int ⟨.int (i+j),H,I.tok _,⟨_,rfl⟩,q⟩
end
structure Room (k:Nat) (A:Around):Prop where
 hd:A.handled=none
 dp:A.depth+3*k+5<recursionLimit
 un:A.units+16*k+200<cLine
def Room.mono {j k:Nat}{A:Around}(r:Room k A)(h:j<=k):Room j A:=⟨r.hd,by have:=r.dp;omega,by have:=r.un;omega⟩
theorem Room.deeper {k:Nat}{A:Around}(r:Room (k+1) A)(env:Env):Room k (A.deeper env):=
 ⟨r.hd,by have:=r.dp;show A.depth+1+3*k+5<_;omega,by have:=r.un;show A.units+3+16*k+200<_;omega⟩
def Dd {A:Around}{C:Addr}{us:List Value}{kw:List (Str×Value)}:(A.under (.builtin "type.__call__" ⟨.ref C::us,kw⟩)).depth=A.depth+1:=by
 first|rfl|simp[Around.under,Code.weight,Code.isCreation,Code.isGuard,Code.isCaller,Code.frames,Code.isFrame,guardIds]
def De {A:Around}{C:Addr}{us:List Value}{kw:List (Str×Value)}:(A.under (.builtin "type.__call__" ⟨.ref C::us,kw⟩)).units=A.units+1:=by
 first|rfl|simp[Around.under,Code.cUnits,Code.frames,Code.isFrame]
def Room.make {k:Nat}{A:Around}(r:Room (k+1) A)(C:Addr)(us:List Value)(kw:List (Str×Value)):Room k (A.under (.builtin "type.__call__" ⟨.ref C::us,kw⟩)):=
 ⟨r.hd,by have:=r.dp;rw[Dd];omega,by have:=r.un;rw[De];omega⟩
theorem Room.depth {k:Nat}{A:Around}(r:Room k A):A.depth<recursionLimit:=by have:=r.dp;omega
theorem Room.units {k:Nat}{A:Around}(r:Room k A):A.units+64<cLine:=by have:=r.un;omega
def Zhb:TA:=fun _ H Q=>Q [] H
def Ep (ta:TE)(tr:TA):TA:=fun σ H Q=>ta σ H fun x H1=>tr σ H1 fun xs H2=>Q (x::xs) H2
section
variable {X:Cx}{e:Expr}{es:List Expr}{te:TE}{t:TA}{pos:Pos}
def X7:PA X [] Zhb:=fun _ _ _ _ H Q I h=>Calls.spliced_nil ⟨[],H,I,.nil,h⟩
def Qo (ha:PE X e te)(hr:PA X es t)(hs:starEach (e::es) X.env=(false,eval e X.env)::starEach es X.env:=by rfl):PA X (e::es) (Ep te t):=by
 intro pos pins s σ H Q I h
 rw[hs]
 show wpAny _ _ (spliced ((false,eval e X.env)::backTo pos (starEach es X.env))) _ _ s
 refine Calls.spliced_cons (Yx (ha pins s σ H _ I h) fun u s1 ⟨x,H1,I1,r1,q1⟩=>?_)
 exact Yx (hr pos pins s1 σ H1 _ I1 q1) fun us s2 ⟨xs,H2,I2,r2,q2⟩=>⟨x::xs,H2,I2,.cons r1 r2,q2⟩
def Zlx (t:TA):TE:=fun σ H Q=>t σ H fun xs H1=>xs.length<=sizeLine/\∀p,H1 p=none->Q (.ref p) (upd H1 p (.tup xs))
def Zly (t:TA):TE:=fun σ H Q=>t σ H fun xs H1=>xs.length<=sizeLine/\∀p,H1 p=none->Q (.ref p) (upd H1 p (.lst xs))
def Md {x1}(h:PA X es t):PE X (.Tuple es x1 pos) (Zlx t):=by
 intro pins s σ H Q I hq
 refine wpAny_Tuple_spliced (Yx (h pos pins s σ H _ I hq) fun us s1 ⟨xs,H1,I1,r,z,q⟩=>⟨by rw[<-r.length];exact z,?_⟩)
 have hf:H1 s1.heap.objs.size=none:=I1.hok.fresh (Nat.le_refl _)
 refine⟨.ref s1.heap.objs.size,upd H1 s1.heap.objs.size (.tup xs),I1.laid (t':=s1.toks) (fun b u e=>Heap.get?_push_of_some _ e) (Nat.le_refl _) ?_,rfl,q _ hf⟩
 exact⟨z,us,r,⟨_,Heap.get?_push_size _ rfl,rfl,_,rfl⟩⟩
def Df (h:PA X es t):PE X (.List es pos) (Zly t):=by
 intro pins s σ H Q I hq
 refine wpAny_List_spliced (Yx (h pos pins s σ H _ I hq) fun us s1 ⟨xs,H1,I1,r,z,q⟩=>⟨by rw[<-r.length];exact z,?_⟩)
 have hf:H1 s1.heap.objs.size=none:=I1.hok.fresh (Nat.le_refl _)
 refine⟨.ref s1.heap.objs.size,upd H1 s1.heap.objs.size (.lst xs),I1.laid (t':=s1.toks) (fun b u e=>Heap.get?_push_of_some _ e) (Nat.le_refl _) ?_,rfl,q _ hf⟩
 exact⟨z,us,0,r,Heap.get?_push_size _ rfl⟩
end
abbrev Sp:=List V->Hp->VK->XK->Prop
abbrev Zdf:=List Env->Hp->Shared->XK->Value->Shared->Prop
structure Env0 (P:Program) (w:World) (K:PySem.W.Frag) (mg:Str->Option Value) (base:Heap) (A:Around) (outer:List Env) (s:Shared) (H:Hp):Prop where
 frames:A.frames=some outer
 mod:Mod K mg base
 bs:∀b o,base.get? b=some o->s.heap.get? b=some o/\H b=none
 bsz:base.objs.size<=s.heap.objs.size
 funs:s.heap.FunFrames base outer
 frf:∀b∈Hy outer,H b=none
 hok:HOk P w H s.heap
 bare:AllBare s.gens
def CE (outer:List Env)(P:Program)(w:World)(H:Hp)(s:Shared)(Q:VK)(u:Value)(s':Shared):Prop:=
 ∃v H',s'.os=s.os/\AllBare s'.gens/\Un (Hy outer) [] H H' s.heap s'.heap/\HOk P w H' s'.heap/\RelV v u/\Q v H'
def CR (CX:Zdf)(outer:List Env)(P:Program)(w:World)(H:Hp)(s:Shared)(Q:VK)(E:XK)(r:Result)(s':Shared):Prop:=
 match r with
 |.ok (.ret u)=>CE outer P w H s Q u s'
 |.ok _=>False
 |.error e=>CX outer H s E e s'
structure FnOk (P:Program) (w:World) (K:PySem.W.Frag) (mg:Str->Option Value) (base:Heap) (CX:Zdf) (k:Nat) (f:Addr) (fd:FuncData) (ps:List Str) (sp:Sp):Prop where
 len:∀vs H Q E,sp vs H Q E->vs.length=ps.length
 run:∀(A:Around) (outer:List Env) (s:Shared) (H:Hp) (args:Args) (us:List Value) (vs:List V) (Q:VK) (E:XK),Room k A->Env0 P w K mg base A outer s H->BindsTo s fd args (ps.zip us)->Vals vs us->sp vs H Q E ->
  codeAny (model P w) A (.call (.ref f) args) (CR CX outer P w H s Q E) s
def Env0.make {P:Program}{w:World}{K:PySem.W.Frag}{mg:Str->Option Value}{base:Heap}{A:Around}{outer:List Env}{s:Shared}{H:Hp}(e:Env0 P w K mg base A outer s H)(C:Addr)(us:List Value)(kw:List (Str×Value)):
  Env0 P w K mg base (A.under (.builtin "type.__call__" ⟨.ref C::us,kw⟩)) outer s H:=⟨by first|exact e.frames|(simpa[Around.under,Code.envs,Code.isFrame,pushEnvs] using e.frames),e.mod,e.bs,e.bsz,e.funs,e.frf,e.hok,e.bare⟩
section
variable {X:Cx}{pins:List (Addr×Obj)}{σ:St}{H:Hp}{s s':Shared}
def Inv.env0 (I:Inv X pins σ H s):Env0 X.prog X.w X.K X.mg X.base X.A X.stack s H:=
 ⟨I.ok.frames,I.ok.mod,I.bs,Nat.le_trans I.ok.bsz I.sz,I.stack,I.stkFree,I.hok,I.bare⟩
def Inv.after {Q:VK}{u:Value}(I:Inv X pins σ H s)(h:CE X.stack X.prog X.w H s Q u s'):EP X pins σ Q u s':=by
 obtain⟨v,H',os,bare,un,hok,r,q⟩:=h
 obtain⟨hh,g,d,t,os'⟩:=s'
 obtain rfl:os'=s.os:=os
 exact⟨v,H',I.call (h':=hh) (g':=g) (d':=d) (t':=t) (ch:=[]) un hok bare (fun b z=>absurd z (by simp)),r,q⟩
end
def Zfz (sp:Sp)(dvs:List V)(E:XK)(t:TA):TE:=fun σ H Q=>t σ H fun vs H1=>sp (vs++dvs) H1 Q E
def Zaj (C:Addr)(m:Str)(sp:Sp)(dvs:List V)(E:XK)(ta:TE)(t:TA):TE:=fun σ H Q=>ta σ H fun x H1=>∃a dx fs,x=.ref a/\H1 a=some (.ins C dx fs)/\fs.lookup m=none /\
 t σ H1 fun vs H2=>sp (x::(vs++dvs)) H2 Q E
def Zf0 (C:Addr)(sp:Sp)(dvs:List V)(E:XK)(t:TA):TE:=fun σ H Q=>t σ H fun vs H1=>∀x dx,H1 x=none->H1 dx=none->dx≠x ->
 sp (.ref x::(vs++dvs)) (upd (upd H1 dx (.own x)) x (.ins C dx [])) (fun v H2=>v=.non/\Q (.ref x) H2) E
def Binds (K:PySem.W.Frag)(fd:FuncData)(ps:List Str)(ds:List Value):Prop:=
 ∀(s:Shared) (us:List Value),K.In s.heap->(us++ds).length=ps.length->BindsTo s fd ⟨us,[]⟩ (ps.zip (us++ds))
def Binds.all {K:PySem.W.Frag}{fd:FuncData}{ps:List Str}(h:∀us:List Value,us.length=ps.length->bindArgs fd ⟨us,[]⟩=pure (ps.zip us)):Binds K fd ps []:=fun s us _ hl=>by
 rw[List.append_nil] at hl ⊢
 exact .of_eq (h us hl)
def W2 (CX:Zdf)(X:Cx)(E:XK):Prop:=∀(pins:List (Addr×Obj)) (σ:St) (H:Hp) (s:Shared) (e:Value) (s':Shared),Inv X pins σ H s->CX X.stack H s E e s'->X.xe e s'
section
variable {X:Cx}{CX:Zdf}{k:Nat}{f C:Addr}{fd:FuncData}{ps:List Str}{sp:Sp}{dvs:List V}{ds:List Value}{E:XK}{x m:Str}{p pos apos:Pos}{e o:Expr}{es:List Expr}{ta:TE}{t:TA}
def Dg {pins:List (Addr×Obj)}{σ:St}{H:Hp}{s:Shared}{Q:VK}{us:List Value}{vs:List V}(F:FnOk X.prog X.w X.K X.mg X.base CX k f fd ps sp)(hr:Room k X.A)(hb:Binds X.K fd ps ds)(hd:Vals dvs ds)(hx:W2 CX X E)(I:Inv X pins σ H s)(r:Vals vs us)(h:sp (vs++dvs) H Q E):wpAny (model X.prog X.w) X.A (call (.ref f) us) (EP X pins σ Q) X.xe s:=by
 have r2:Vals (vs++dvs) (us++ds):=r.append hd
 have hl:(us++ds).length=ps.length:=by rw[<-r2.length];exact F.len _ _ _ _ h
 refine wpAny_call (codeAny_mono (F.run X.A X.stack s H ⟨us,[]⟩ (us++ds) (vs++dvs) Q E hr I.env0 (hb s us I.kIn hl) r2 h) fun r s' hq=>?_)
 cases r with
 |error e=>exact hx pins σ H s e s' I hq
 |ok fl=>
  cases fl with
  |ret u=>exact I.after hq
  |next=>exact False.elim hq
  |brk=>exact False.elim hq
  |cont=>exact False.elim hq
def Ua (F:FnOk X.prog X.w X.K X.mg X.base CX k f fd ps sp)(hr:Room k X.A)(hg:Gl X x)(hm:X.mg x=some (.ref f))(hk:PySem.W.keepIn X.K (.ref f)=true)(hb:Binds X.K fd ps ds)(hd:Vals dvs ds)(hx:W2 CX X E)(ha:PA X (e::es) t) (hdb:(x==("__debug__":Str))=false:=by decide) (he:starEach (e::es) X.env=(false,eval e X.env)::starEach es X.env:=by rfl) (hpl:(backTo pos (starEach es X.env)).any (·.1)=false:=by rfl):
  PE X (.Call (.Name x p) (e::es) [] pos) (Zfz sp dvs E t):=by
 intro pins s σ H Q I h
 refine wpAny_Call_Name_kw (Ej I hg hm ?_ hdb)
 refine PySem.W.callWith_K (h₀:=X.base) I.ok.mod.kin hk (Yx (ha pos pins s σ H _ I h) fun us s1 ⟨vs,H1,I1,r,q⟩=>⟨I1.kIn,?_⟩) he hpl
 exact Dg F hr hb hd hx I1 r q
def Me {pl:Sem Bool}(he:PE X o ta)(c:Cls X.K C)(hm:Meth X.K C m f)(F:FnOk X.prog X.w X.K X.mg X.base CX k f fd ps sp)(hr:Room k X.A)(hb:Binds X.K fd ps ds)(hd:Vals dvs ds)(hx:W2 CX X E)(ha:PA X (e::es) t)(hst:starEach (e::es) X.env=(false,eval e X.env)::starEach es X.env:=by rfl)(hpl:(backTo pos (starEach es X.env)).any (·.1)=false:=by rfl)(ht:eval (.Call (.Attribute o m apos) (e::es) [] pos) X.env=(do
   let ov <-eval o X.env
   standAt apos.atName
   let (f,first) <-holding [ov] (getMethod ov m pl)
   callWith pos f first (backTo pos (starEach (e::es) X.env)) (backToKw pos (keywordEach [] X.env))):=by rfl):
  PE X (.Call (.Attribute o m apos) (e::es) [] pos) (Zaj C m sp dvs E ta t):=by
 intro pins s σ H Q I h
 refine PySem.W.methodCall_KW (pl:=pl) (Yx (he pins s σ H _ I h) fun u s1 ⟨x,H1,I1,rx,a,dx,fs,ex,ea,l,q⟩=>?_) ht
 subst ex
 obtain rfl:u=Value.ref a:=rx
 refine Rj I1 ea c hm l ?_
 refine PySem.W.callWith_K (first:=[.ref a]) (h₀:=X.base) I.ok.mod.kin hm.kp (Yx (ha pos pins s1 σ H1 _ I1 q) fun us s2 ⟨vs,H2,I2,r,q2⟩=>⟨I2.kIn,?_⟩) hst hpl
 exact Dg (us:=.ref a::us) (vs:=.ref a::vs) F hr hb hd hx I2 (.cons rfl r) q2
def B8 {pl:Sem Bool}(he:PE X o ta)(c:Cls X.K C)(hm:Meth X.K C m f)(F:FnOk X.prog X.w X.K X.mg X.base CX k f fd ps sp)(hr:Room k X.A)(hb:Binds X.K fd ps ds)(hd:Vals dvs ds)(hx:W2 CX X E)(ht:eval (.Call (.Attribute o m apos) [] [] pos) X.env=(do
   let ov <-eval o X.env
   standAt apos.atName
   let (f,first) <-holding [ov] (getMethod ov m pl)
   callWith pos f first (backTo pos (starEach [] X.env)) (backToKw pos (keywordEach [] X.env))):=by rfl):
  PE X (.Call (.Attribute o m apos) [] [] pos) (Zaj C m sp dvs E ta Zhb):=by
 intro pins s σ H Q I h
 refine PySem.W.methodCall_KW (pl:=pl) (Yx (he pins s σ H _ I h) fun u s1 ⟨x,H1,I1,rx,a,dx,fs,ex,ea,l,q⟩=>?_) ht
 subst ex
 obtain rfl:u=Value.ref a:=rx
 refine Rj I1 ea c hm l ?_
 exact PySem.W.callWith_K0 (first:=[.ref a]) I1.kIn hm.kp (Dg (us:=[.ref a]) (vs:=[.ref a]) F hr hb hd hx I1 (.cons rfl .nil) q)
structure Mk (K:PySem.W.Frag) (C f:Addr):Prop where
 makes:PySem.W.makesIn K C=true
 init:PySem.W.findIn K (.ref C) "__init__"=some (some (.ref f))
 fn:PySem.W.isFn K (.ref f)=true
 kp:PySem.W.keepIn K (.ref C)=true
def Zak {pins:List (Addr×Obj)}{σ:St}{H:Hp}{s:Shared}{Q:VK}{us:List Value}{vs:List V}(M:Mk X.K C f)(F:FnOk X.prog X.w X.K X.mg X.base CX k f fd ps sp)(hr:Room (k+1) X.A)(hb:Binds X.K fd ps ds)(hd:Vals dvs ds)(hx:W2 CX X E)(I:Inv X pins σ H s)(r:Vals vs us)(h:∀x dx,H x=none->H dx=none->dx≠x->sp (.ref x::(vs++dvs)) (upd (upd H dx (.own x)) x (.ins C dx [])) (fun v H2=>v=.non/\Q (.ref x) H2) E):
  wpAny (model X.prog X.w) X.A (call (.ref C) us) (EP X pins σ Q) X.xe s:=by
 have hq:=h (s.heap.objs.size+1) s.heap.objs.size (I.hok.fresh (Nat.le_succ _)) (I.hok.fresh (Nat.le_refl _)) (Nat.ne_of_lt (Nat.lt_succ_self _))
 have I2:=Inv.made (C:=C) I
 have r2:Vals (V.ref (s.heap.objs.size+1)::(vs++dvs)) (Value.ref (s.heap.objs.size+1)::(us++ds)):=.cons rfl (r.append hd)
 have hl:(Value.ref (s.heap.objs.size+1)::us++ds).length=ps.length:=by
  have e:=r2.length
  rw[F.len _ _ _ _ hq] at e
  exact e.symm
 refine wpAny_call (Zai (f:=f) I.kIn M.makes M.init (beq_iff_eq.mp M.fn) (codeAny_mono (F.run _ X.stack _ _ ⟨Value.ref (s.heap.objs.size+1)::us,[]⟩ (Value.ref (s.heap.objs.size+1)::(us++ds)) _ _ E (hr.make C us [])
  (I2.env0.make C us []) (hb _ (Value.ref (s.heap.objs.size+1)::us) I2.kIn hl) r2 hq) fun r s' hq'=>?_))
 cases r with
 |error e=>exact hx pins σ _ _ e s' I2 hq'
 |ok fl=>
  cases fl with
  |ret u=>
   obtain⟨v,H',I3,rv,ev,q3⟩:=I2.after hq'
   subst ev
   exact⟨rv,⟨V.ref (s.heap.objs.size+1),H',I3,rfl,q3⟩⟩
  |next=>exact False.elim hq'
  |brk=>exact False.elim hq'
  |cont=>exact False.elim hq'
def Mf (M:Mk X.K C f)(F:FnOk X.prog X.w X.K X.mg X.base CX k f fd ps sp)(hr:Room (k+1) X.A)(hg:Gl X x)(hm:X.mg x=some (.ref C))(hb:Binds X.K fd ps ds)(hd:Vals dvs ds)(hx:W2 CX X E)(ha:PA X (e::es) t) (hdb:(x==("__debug__":Str))=false:=by decide) (he:starEach (e::es) X.env=(false,eval e X.env)::starEach es X.env:=by rfl) (hpl:(backTo pos (starEach es X.env)).any (·.1)=false:=by rfl):
  PE X (.Call (.Name x p) (e::es) [] pos) (Zf0 C sp dvs E t):=by
 intro pins s σ H Q I h
 refine wpAny_Call_Name_kw (Ej I hg hm ?_ hdb)
 refine PySem.W.callWith_K (h₀:=X.base) I.ok.mod.kin M.kp (Yx (ha pos pins s σ H _ I h) fun us s1 ⟨vs,H1,I1,r,q⟩=>⟨I1.kIn,?_⟩) he hpl
 exact Zak M F hr hb hd hx I1 r q
end
structure FnScope (N P:List Str) (sc:Scope):Prop where
 kind:sc.kind=.function
 co:sc.isCoroutine=false
 gen:sc.isGenerator=false
 nd:N.Nodup
 pre:N.take P.length=P
 par:∀x∈P,sc.names.lookup x=some .local\/sc.names.lookup x=some .cell
 nofree:∀y∈sc.names,y.2≠.free
theorem Tz {kindOf:Str->Option NameKind}{x:Str}:∀{binds:List (Str×Value)}{m:Str->Option Value},(∀v,(x,v) ∉ binds)->bindL kindOf binds m x=m x
 |[],_,_=>rfl
 |(n,v)::r,m,h=>by
  unfold bindL
  rw[Tz fun w hw=>h w (List.mem_cons_of_mem _ hw)]
  split
  ·have:x≠n:=by rintro rfl;exact h v List.mem_cons_self
   simp[this]
  ·rfl
theorem T1 {kindOf:Str->Option NameKind}{x:Str}:∀{binds:List (Str×Value)}{m:Str->Option Value},(∀v,(x,v) ∉ binds)->bindC kindOf binds m x=m x
 |[],_,_=>rfl
 |(n,v)::r,m,h=>by
  unfold bindC
  rw[T1 fun w hw=>h w (List.mem_cons_of_mem _ hw)]
  split
  ·rfl
  ·have:x≠n:=by rintro rfl;exact h v List.mem_cons_self
   simp[this]
theorem T2 {kindOf:Str->Option NameKind}{x:Str}{v:Value}:∀{P:List Str}{vs:List Value}{i:Nat}{m:Str->Option Value},P.Nodup->P[i]?=some x->vs[i]?=some v->kindOf x=some .local ->
  bindL kindOf (P.zip vs) m x=some v
 |[],_,_,_,_,h,_,_=>by simp at h
 |_::_,[],_,_,_,_,h,_=>by simp at h
 |p::P,w::vs,0,m,nd,h1,h2,hk=>by
  simp at h1 h2;subst h1;subst h2
  show bindL kindOf ((p,w)::P.zip vs) m p=_
  unfold bindL
  rw[Tz fun v hv=>(List.nodup_cons.mp nd).1 (List.of_mem_zip hv).1,if_pos hk]
  simp
 |p::P,w::vs,i+1,m,nd,h1,h2,hk=>by
  show bindL kindOf ((p,w)::P.zip vs) m x=_
  unfold bindL
  exact T2 (i:=i) (List.nodup_cons.mp nd).2 (by simpa using h1) (by simpa using h2) hk
theorem T3 {kindOf:Str->Option NameKind}{x:Str}{v:Value}:∀{P:List Str}{vs:List Value}{i:Nat}{m:Str->Option Value},P.Nodup->P[i]?=some x->vs[i]?=some v->kindOf x≠some .local ->
  bindC kindOf (P.zip vs) m x=some v
 |[],_,_,_,_,h,_,_=>by simp at h
 |_::_,[],_,_,_,_,h,_=>by simp at h
 |p::P,w::vs,0,m,nd,h1,h2,hk=>by
  simp at h1 h2;subst h1;subst h2
  show bindC kindOf ((p,w)::P.zip vs) m p=_
  unfold bindC
  rw[T1 fun v hv=>(List.nodup_cons.mp nd).1 (List.of_mem_zip hv).1,if_neg hk]
  simp
 |p::P,w::vs,i+1,m,nd,h1,h2,hk=>by
  show bindC kindOf ((p,w)::P.zip vs) m x=_
  unfold bindC
  exact T3 (i:=i) (List.nodup_cons.mp nd).2 (by simpa using h1) (by simpa using h2) hk
def X6 (N:List Str)(vs:List V):St:=vs.map some++List.replicate (N.length-vs.length) none
def Kh (CX:Zdf)(P:Program)(w:World)(K:PySem.W.Frag)(mg:Str->Option Value)(base:Heap)(N:List Str)(qual:Str)(scope:Scope)(f:Addr)(cd:Value)(A:Around)(outer:List Env)(s:Shared)(H:Hp)(E:XK):Cx where
 prog:=P
 w:=w
 K:=K
 mg:=mg
 base:=base
 A:=A.deeper (envOfC qual scope s.heap.objs.size f cd)
 N:=N
 s₀:=s
 H₀:=H
 env:=envOfC qual scope s.heap.objs.size f cd
 outer:=outer
 stack:=envOfC qual scope s.heap.objs.size f cd::outer
 ex:=[]
 calm:=true
 fn:=fun _=>true
 pn:=[]
 xe:=fun e s'=>wpAny (model P w) (A.deeper (envOfC qual scope s.heap.objs.size f cd)) (leaving (envOfC qual scope s.heap.objs.size f cd) e) (fun _ s''=>CX outer H s E e s'') (fun e' s''=>CX outer H s E e' s'') s'
def X9 {sc:Scope}{n:Nat}{x:Str}(h:sc.names.lookup x=some .cell):∃c,(cellsFrom n sc.names []).lookup x=some c:=by
 have q:=PySem.W.cellsFrom_some sc.names n [] (.inl h)
 exact Option.isSome_iff_exists.mp q
def Ii {CX:Zdf}{P:Program}{w:World}{K:PySem.W.Frag}{mg:Str->Option Value}{base:Heap}{N ps:List Str}{qual:Str}{scope:Scope}{f:Addr}{cd:Value}{A:Around}{outer:List Env}{s s1:Shared}{H:Hp}{E:XK}{us:List Value}{vs:List V}(S:FnScope N ps scope)(hd:A.handled=none)(e0:Env0 P w K mg base A outer s H)(hl:vs.length=ps.length)(r:Vals vs us)(x:InCallC s s.heap.objs.size (bindL (envOfC qual scope s.heap.objs.size f cd).kindOf (ps.zip us) fun _=>none) (cellsFrom (s.heap.objs.size+1) scope.names []) (bindC (envOfC qual scope s.heap.objs.size f cd).kindOf (ps.zip us) fun _=>none) s1):
  Inv (Kh CX P w K mg base N qual scope f cd A outer s H E) [] (X6 N vs) H s1:=by
 have hpl:ps.length<=N.length:=by have:=congrArg List.length S.pre;rw[List.length_take] at this;omega
 obtain⟨h1,tk,rfl,hk⟩:=x.done
 have noA:∀b:Addr,b ∉ (Kh CX P w K mg base N qual scope f cd A outer s H E).ex:=fun b z=>absurd (show b∈([]:List Addr) from z) (by simp)
 refine⟨⟨e0.mod,S.kind,rfl,rfl,Nat.le_refl _,fun y z c h1 h2=>?_,fun y hy=>?_,fun y c _ h=>?_,fun _=>hd,Around.frames_deeper e0.frames,.inr ⟨rfl,rfl⟩,fun b z=>absurd z (noA b),e0.bs,e0.bsz,fun b _ _=>noA b,fun b z=>absurd z (noA b),e0.funs,e0.frf⟩,
  rfl,e0.bare,Un.kept hk,⟨_,x.toInCall.ns,fun i y v h1 h2 h3=>?_⟩,fun y c h=>⟨_,x.cell y c h⟩,e0.hok.fresh (Nat.le_refl _),fun y c h=>?_,fun p hp=>absurd (show p∈([]:List (Addr×Obj)) from hp) (by simp),e0.hok.kept hk,?_⟩
 ·exact name_of_addr x.apart (PySem.mem_of_lookup h1) (PySem.mem_of_lookup h2)
 ·have hy:scope.names.lookup y=some .cell\/scope.names.lookup y=some .free:=hy
  rcases hy with hy|hy
  ·exact X9 hy
  ·exact absurd rfl (S.nofree _ (PySem.mem_of_lookup hy))
 ·exact Nat.le_of_lt (x.above y c (PySem.mem_of_lookup h))
 ·have hi:i<vs.length:=by
   unfold X6 at h2
   by_cases hi:i<vs.length
   ·exact hi
   ·rw[List.getElem?_append_right (by simpa using hi)] at h2
    rw[List.getElem?_replicate] at h2
    split at h2<;>cases h2
  have ha:vs[i]?=some v:=by
   unfold X6 at h2
   rw[List.getElem?_append_left (by simpa using hi),List.getElem?_map] at h2
   cases e:vs[i]? with
   |none=>rw[e] at h2;cases h2
   |some a=>rw[e] at h2;cases h2;rfl
  obtain⟨u,hu,rv⟩:=r.get ha
  have hp:ps[i]?=some y:=by
   rw[<-S.pre,List.getElem?_take_of_lt (by omega)];exact h1
  have ndP:ps.Nodup:=by rw[<-S.pre];exact S.nd.sublist (List.take_sublist _ _)
  refine⟨u,rv,?_⟩
  rcases S.par y (List.mem_of_getElem? hp) with k|k
  ·exact .inl ⟨k,T2 ndP hp hu k⟩
  ·obtain⟨c,e⟩:=X9 (n:=s.heap.objs.size+1) k
   refine .inr ⟨.inl k,c,e,?_⟩
   have q:=x.cell y c e
   rw[T3 ndP hp hu (by show scope.names.lookup y≠_;rw[k];decide)] at q
   exact q
 ·exact e0.hok.fresh (Nat.le_of_lt (x.above y c (PySem.mem_of_lookup h)))
 ·unfold X6
  show _=N.length
  rw[List.length_append,List.length_map,List.length_replicate]
  omega
def Zjv {CX:Zdf}{P:Program}{w:World}{K:PySem.W.Frag}{mg:Str->Option Value}{base:Heap}{k:Nat}{f:Addr}{name qual:Str}{params:Arguments}{body:List Stmt}{scope:Scope}{dV kV doc pm cdv ct oc:Value}{an od:Option Addr}{osl:Array (Option Value)}{N ps:List Str}{sp:Sp}(lk:K.lookup f=some ⟨oc,od,.func (PySem.W.fnOf name qual params body scope dV kV doc pm an cdv ct),osl⟩)(hcd:PySem.W.codeIn K cdv qual=true)(S:FnScope N ps scope)(len:∀vs H Q E,sp vs H Q E->vs.length=ps.length)(hbody:∀(A:Around) (outer:List Env) (s:Shared) (H:Hp) (vs:List V) (Q:VK) (E:XK),Room k (A.deeper (envOfC qual scope s.heap.objs.size f cdv))->sp vs H Q E ->
   ∃t,PSs (Kh CX P w K mg base N qual scope f cdv A outer s H E) body t/\t {nx:=fun _ H'=>Q .non H',rt:=Q} (X6 N vs) H):
  FnOk P w K mg base CX (k+1) f (PySem.W.fnOf name qual params body scope dV kV doc pm an cdv ct) ps sp:=by
 refine⟨len,fun A outer s H args us vs Q E hr e0 hb r hsp=>?_⟩
 have hl:=len _ _ _ _ hsp
 have KX:K.In s.heap:=e0.mod.kin.keeps fun b o e=>(e0.bs b o e).1
 have lim:s.heap.NoLimit:=e0.mod.nolimit.keeps fun b o e=>(e0.bs b o e).1
 have hkind:∀y∈ps.zip us,scope.names.lookup y.1=some .local\/(scope.names.lookup y.1=some .cell/\((cellsFrom (s.heap.objs.size+1) scope.names []).lookup y.1).isSome=true):=fun⟨n,v⟩ hy=>by
  rcases S.par n (List.of_mem_zip hy).1 with q|q
  ·exact .inl q
  ·exact .inr ⟨q,PySem.W.cellsFrom_some _ _ _ (.inl q)⟩
 refine codeAny_call_function hr.depth (KX _ _ lk) rfl S.co S.gen rfl (PySem.W.codeRec_of KX hcd) (hb _ _ _ _ ?_)
 refine wpAny_newFunctionEnv_cells S.kind hkind fun env he s1 x=>?_
 subst he
 refine⟨lim.keeps x.toInCall.keep,codeAny_func ?_⟩
 obtain⟨t,ht,hq⟩:=hbody A outer s H vs Q E (hr.deeper _) hsp
 have I:Inv (Kh CX P w K mg base N qual scope f cdv A outer s H E) [] (X6 N vs) H s1:=Ii S hr.hd e0 hl r x
 refine wpAny_mono (ht [] s1 (X6 N vs) H _ I hq) (fun fl s' hs=>?_) fun e s' hs=>hs
 have fin:∀{σ':St}{H':Hp}{v:V}{u:Value},Inv (Kh CX P w K mg base N qual scope f cdv A outer s H E) [] σ' H' s'->RelV v u->Q v H'->CE outer P w H s Q u s':=
  fun {σ' H' v u} J rv q=>⟨v,H',J.os,J.bare,J.base,J.hok,rv,q⟩
 cases fl with
 |ret u=>
  obtain⟨v,σ',H',J,rv,q⟩:=hs
  exact fin J rv q
 |next=>
  obtain⟨σ',H',J,q⟩:=hs
  exact fin (v:=V.non) (u:=Value.none) J rfl q
 |brk=>
  obtain⟨_,_,_,q⟩:=hs
  exact False.elim q
 |cont=>
  obtain⟨_,_,_,q⟩:=hs
  exact False.elim q
section
variable {X:Cx}{x:Str}{p pos:Pos}{e:Expr}{es:List Expr}{t:TA}{id T:String}{r:List V->Hp->VK->Prop}
def Zmo (r:List V->Hp->VK->Prop)(t:TA):TE:=fun σ H Q=>t σ H fun vs H1=>r vs H1 Q
def B9 (hc:CallR X (.builtin id) r)(hg:Gl X x)(hm:X.mg x=none)(hv:bootBuiltins x=some (.builtin id))(ha:PA X (e::es) t) (hn:x ≠ "__name__":=by decide) (hdb:(x==("__debug__":Str))=false:=by decide)
  (he:starEach (e::es) X.env=(false,eval e X.env)::starEach es X.env:=by rfl) (hpl:(backTo pos (starEach es X.env)).any (·.1)=false:=by rfl):PE X (.Call (.Name x p) (e::es) [] pos) (Zmo r t):=by
 intro pins s σ H Q I h
 refine wpAny_Call_Name_kw (Re I hg hm hv ?_ hn hdb)
 exact PyProof.Rows.callWith_builtin1 (Yx (ha pos pins s σ H _ I h) fun us s1 ⟨vs,H1,I1,r1,q1⟩=>hc pins s1 σ H1 vs us Q I1 r1 q1) he hpl
def Ij (hc:CallR X (.type T) r)(hg:Gl X x)(hm:X.mg x=none)(hv:bootBuiltins x=some (.type T))(ha:PA X (e::es) t) (hn:x ≠ "__name__":=by decide) (hdb:(x==("__debug__":Str))=false:=by decide)
  (he:starEach (e::es) X.env=(false,eval e X.env)::starEach es X.env:=by rfl) (hpl:(backTo pos (starEach es X.env)).any (·.1)=false:=by rfl):PE X (.Call (.Name x p) (e::es) [] pos) (Zmo r t):=by
 intro pins s σ H Q I h
 refine wpAny_Call_Name_kw (Re I hg hm hv ?_ hn hdb)
 exact PyProof.Rows.callWith_type1 (Yx (ha pos pins s σ H _ I h) fun us s1 ⟨vs,H1,I1,r1,q1⟩=>hc pins s1 σ H1 vs us Q I1 r1 q1) he hpl
end
end L2
namespace HT
open PySem PyProof.Rows
section
variable {prog:Program}{w:World}{A:Around}{E:Value->Shared->Prop}{s:Shared}
def cat_tup {t b:Addr}{vs ws:List Value}{Q:Value->Shared->Prop}(ht:IsTup s.heap t vs.toArray)(hb:IsTup s.heap b ws.toArray)(hv:vs≠[])(h1:ws=[]->Q (.ref t) s) (h2:ws≠[]->Q (.ref s.heap.objs.size) {s with heap:=s.heap.push {cls:=.type "tuple", data:=.seq (vs++ws).toArray}})
  (hsz:vs.length+ws.length<=sizeLine):wpAny (model prog w) A (binaryOp .Add (.ref t) (.ref b)) Q E s:=by
 obtain⟨⟨cls,dd,data,sl⟩,ho,hc,n,hd⟩:=id ht
 obtain⟨⟨cls2,dd2,data2,sl2⟩,ho2,hc2,n2,hd2⟩:=id hb
 simp only at hc hd hc2 hd2
 subst hc hd hc2 hd2
 have e:vs.toArray++ws.toArray=(vs++ws).toArray:=by simp
 by_cases hw:ws=[]
 ·exact concat_meets ⟨_,ho,rfl⟩ ⟨_,ho2,rfl⟩ noFill_tuple_add seq_tuple_add PySem.F.slot_tuple_add PySem.F.entry_tuple_add (PySem.F.args_tuple_add_2 _ _)
   (tuple_addW1 t b vs.toArray ws.toArray n n2 dd dd2 sl sl2 (by simpa using hv) (by simp[hw])) ⟨ho,ho2,h1 hw⟩
 ·refine concat_meets ⟨_,ho,rfl⟩ ⟨_,ho2,rfl⟩ noFill_tuple_add seq_tuple_add PySem.F.slot_tuple_add PySem.F.entry_tuple_add (PySem.F.args_tuple_add_2 _ _)
   (tuple_addW2 t b vs.toArray ws.toArray n n2 dd dd2 sl sl2 (by simpa using hv) (by simpa using hw) (by rw[List.size_toArray,List.size_toArray];exact hsz)) ⟨ho,ho2,?_⟩
  rw[e]
  exact h2 hw
def sIx (n d:Nat):Option Int->Nat
 |none=>d
 |some v=>if v<0 then(v+(n:Int)).toNat else min v.toNat n
def sIx_nat (n d k:Nat):sIx n d (some (k:Int))=min k n:=by
 show(if(k:Int)<0 then((k:Int)+(n:Int)).toNat else min (k:Int).toNat n)=min k n
 rw[if_neg (by omega),Int.toNat_natCast]
def Zhc (n d:Nat)(hd:d<=n)(o:Option Int):sIx n d o<=n:=by
 cases o with
 |none=>exact hd
 |some v=>
  show(if v<0 then(v+(n:Int)).toNat else min v.toNat n)<=n
  by_cases hv:v<0
  ·rw[if_pos hv];omega
  ·rw[if_neg hv];exact Nat.min_le_right _ _
def Er (v:Int)(n d:Nat):(if v<0 then max (v+(n:Int)) 0 else min v (n:Int))=((sIx n d (some v):Nat):Int):=by
 show(if v<0 then max (v+(n:Int)) 0 else min v (n:Int))=(((if v<0 then(v+(n:Int)).toNat else min v.toNat n):Nat):Int)
 by_cases hv:v<0
 ·simp only[if_pos hv];omega
 ·simp only[if_neg hv];omega
def Dh (lo hi:Option Int)(n:Nat):Builtin.Slice.sliceAdjust lo hi 1 (n:Int)=(((sIx n 0 lo:Nat):Int),((sIx n n hi:Nat):Int)):=by
 have h1:¬((1:Int)<0):=by omega
 unfold Builtin.Slice.sliceAdjust
 simp only[h1,if_false]
 refine Prod.ext ?_ ?_
 ·cases lo with
  |none=>rfl
  |some v=>exact Er v n 0
 ·cases hi with
  |none=>rfl
  |some v=>exact Er v n n
def Di (i j:Nat):Builtin.Slice.slicePlaces (i:Int) (j:Int) 1=j-i:=by
 unfold Builtin.Slice.slicePlaces
 have h1:(1:Int) > 0:=by omega
 simp only[h1,if_true,Int.ediv_one]
 split<;>omega
def Rl {v:Value}{o:Option Int}{Q:Option Int->Shared->Prop}(p:IsPart v o)(h:Q o s):wpAny (model prog w) A (Builtin.Slice.slicePartIndex v) Q E s:=by
 cases p with
 |none=>exact slicePart_none h
 |int i t=>exact slicePart_int h
def Nj {sl:Addr}{vl vu:Value}{lo hi:Option Int}{n:Nat}{Q:Int×Int×Nat->Shared->Prop}(hs:s.heap.IsSliceOf sl vl vu .none)(pl:IsPart vl lo)(pu:IsPart vu hi)(h:Q (((sIx n 0 lo:Nat):Int),1,sIx n n hi-sIx n 0 lo) s):wpAny (model prog w) A (Builtin.Slice.sliceApplied (.ref sl) (pure (n:Int))) Q E s:=by
 obtain⟨os,hos,hcs,hds⟩:=id hs
 unfold Builtin.Slice.sliceApplied Builtin.Slice.sliceFields
 refine wpAny_bind (wpAny_bind (wpAny_field hos hds (x:=vl) rfl (wpAny_bind (wpAny_field hos hds (x:=vu) rfl (wpAny_bind (wpAny_field hos hds (x:=.none) rfl (wpAny_pure ?_)))))))
 refine wpAny_bind (slicePart_none ?_)
 show wpAny _ _ (if((1:Int)==0)=true then _ else _) _ _ s
 rw[if_neg (by decide)]
 refine wpAny_bind (Rl pl (wpAny_bind (Rl pu (wpAny_bind (wpAny_pure ?_)))))
 show wpAny _ _ (match Builtin.Slice.sliceAdjust lo hi 1 (n:Int) with|(lo,hi)=>pure (lo,(1:Int),Builtin.Slice.slicePlaces lo hi 1)) _ _ s
 rw[Dh lo hi n]
 show wpAny _ _ (pure (((sIx n 0 lo:Nat):Int),(1:Int),Builtin.Slice.slicePlaces ((sIx n 0 lo:Nat):Int) ((sIx n n hi:Nat):Int) 1)) _ _ s
 rw[Di]
 exact wpAny_pure h
def pick_gen (xs:Array Value)(i k:Nat):((List.range k).filterMap fun(m:Nat)=>xs[((i:Int)+(m:Int)*1).toNat]?).toArray=((xs.toList.drop i).take k).toArray:=by
 have e:(fun(m:Nat)=>xs[((i:Int)+(m:Int)*1).toNat]?)=fun m=>xs[i+m]?:=by
  funext m
  have:((i:Int)+(m:Int)*1).toNat=i+m:=by omega
  rw[this]
 rw[e]
 have:=pick_run xs i k
 rw[List.filterMap_map] at this
 have e2:((fun x=>xs[x]?)∘fun x=>i+x)=fun m=>xs[i+m]?:=rfl
 rw[e2] at this
 rw[this]
def getItem_tuple_cut {t sl:Addr}{items:Array Value}{vl vu:Value}{lo hi:Option Int}{Q:Value->Shared->Prop}(ht:IsTup s.heap t items)(hs:s.heap.IsSliceOf sl vl vu .none)(pl:IsPart vl lo)(pu:IsPart vu hi)(hw:¬(sIx items.size 0 lo=0/\sIx items.size items.size hi=items.size))
  (h:Q (.ref s.heap.objs.size) {s with heap:=s.heap.push {cls:=.type "tuple", data:=.seq ((items.toList.drop (sIx items.size 0 lo)).take (sIx items.size items.size hi-sIx items.size 0 lo)).toArray}})
  (hsz:items.size<=sizeLine):wpAny (model prog w) A (getItem (.ref t) (.ref sl)) Q E s:=by
 have htake:sizeOk (.seq ((items.toList.drop (sIx items.size 0 lo)).take (sIx items.size items.size hi-sIx items.size 0 lo)).toArray):=by
  show((items.toList.drop (sIx items.size 0 lo)).take (sIx items.size items.size hi-sIx items.size 0 lo)).toArray.size<=sizeLine
  rw[List.size_toArray,List.length_take,List.length_drop,Array.length_toList]
  omega
 have hj:sIx items.size items.size hi<=items.size:=Zhc _ _ (Nat.le_refl _) hi
 obtain⟨os,hos,hcs,hds⟩:=id hs
 have hTs:s.TypeIs (.ref sl) "slice":=⟨os,hos,hcs⟩
 unfold getItem
 try with_reducible refine wpAny_holding ?_
 first|refine wpAny_bind (wpAny_pure ?_)|skip
 refine wpAny_bind (wpAny_sequenceKey ht.typeIs (by decide) ?_)
 refine wpAny_bind (wpAny_callSpecial?_slot (name:=Str.ofString "__getitem__") ht.typeIs PyProof.Rows.slot_tuple_getitem
  (wpAny_call_entry PyProof.Rows.slot_tuple_getitem ht.typeIs entry_tuple_getitem ?_ (args_tuple_getitem _ _)))
 show wpAny _ _ (Builtin.Tuple.tupleItemsOf (.ref t)>>=_) _ _ s
 refine wpAny_bind (tupleItemsOf_ ht ?_)
 refine wpAny_bind (wpAny_typeOf hTs ?_)
 rw[if_pos (by decide)]
 refine wpAny_bind (Nj hs pl pu ?_)
 have hno:¬((((sIx items.size 0 lo:Nat):Int)==0&&(1:Int)==1&&(sIx items.size items.size hi-sIx items.size 0 lo)==items.size)=true):=by
  intro q
  rw[Bool.and_eq_true,Bool.and_eq_true] at q
  have q1:((sIx items.size 0 lo:Nat):Int)=0:=eq_of_beq q.1.1
  have q2:sIx items.size items.size hi-sIx items.size 0 lo=items.size:=eq_of_beq q.2
  exact hw ⟨by omega,by omega⟩
 show wpAny _ _ (if(((sIx items.size 0 lo:Nat):Int)==0&&(1:Int)==1&&(sIx items.size items.size hi-sIx items.size 0 lo)==items.size)=true then _ else _) _ _ s
 rw[if_neg hno,pick_gen]
 first
  |exact wpAny_bind (m:=Builtin.Tuple.tupleExact _) (wpAny_newObj_type (wpAny_pure ⟨_,rfl,wpAny_pure h⟩) htake)
  |exact wpAny_bind (m:=Builtin.Tuple.tupleExact _) (wpAny_newObj_type (wpAny_bind (wpAny_pure (wpAny_pure ⟨_,rfl,wpAny_pure h⟩))) htake)
  |exact wpAny_bind (wpAny_bind (m:=Builtin.Tuple.tupleExact _) (wpAny_newObj_type (wpAny_pure (wpAny_pure ⟨_,rfl,wpAny_pure h⟩)) htake))
  |exact wpAny_bind (wpAny_bind (m:=Builtin.Tuple.tupleExact _) (wpAny_newObj_type (wpAny_pure ⟨_,rfl,wpAny_pure h⟩) htake))
end
end HT
namespace L2
open PySem PySem.Spec PyProof.Rows
abbrev TO:=St->Hp->(Option Int->Hp->Prop)->Prop
def PO (X:Cx)(e:Option Expr)(t:TO):Prop:=
 ∀(pins:List (Addr×Obj)) (s:Shared) (σ:St) (H:Hp) (Q:Option Int->Hp->Prop),Inv X pins σ H s->t σ H Q ->
  wpAny (model X.prog X.w) X.A (evalPart e X.env) (fun u s'=>∃o H',Inv X pins σ H' s'/\IsPart u o/\Q o H') X.xe s
def Zdx:TO:=fun _ H Q=>Q none H
def Zjw (t:TE):TO:=fun σ H Q=>t σ H fun x H1=>∃i,x=.int i/\Q (some i) H1
section
variable {X:Cx}{e:Expr}{te:TE}{lo hi:Option Expr}{tl th:TO}{pos p2:Pos}
def Zdy:PO X none Zdx:=by
 intro pins s σ H Q I h
 rw[evalPart_none]
 exact wpAny_pure ⟨none,H,I,.none,h⟩
def Zdz (h:PE X e te):PO X (some e) (Zjw te):=by
 intro pins s σ H Q I hw
 rw[evalPart_some]
 refine Yx (h pins s σ H _ I hw) fun u s1 ⟨x,H1,I1,r1,q1⟩=>?_
 obtain⟨i,rfl,q⟩:=q1
 obtain⟨t,rfl⟩:=r1
 exact⟨some i,H1,I1,.int i t,q⟩
def SlR (X:Cx)(r:V->Option Int->Option Int->Hp->VK->Prop):Prop:=
 ∀(pins:List (Addr×Obj)) (s:Shared) (σ:St) (H:Hp) (x:V) (v vl vu:Value) (lo hi:Option Int) (sl:Addr) (Q:VK),Inv X pins σ H s->RelV x v->s.heap.IsSliceOf sl vl vu .none->IsPart vl lo->IsPart vu hi->r x lo hi H Q ->
  ∃T id,typeLookup (.type T) "__getitem__"=pure (some (.builtin id))/\s.TypeIs v T/\wpAny (model X.prog X.w) X.A (getItem v (.ref sl)) (EP X pins σ Q) X.xe s
def SlR.or {r r':V->Option Int->Option Int->Hp->VK->Prop}(h:SlR X r)(h':SlR X r'):SlR X (fun x lo hi H Q=>r x lo hi H Q\/r' x lo hi H Q):=by
 intro pins s σ H x v vl vu lo hi sl Q I rx hs pl pu q
 rcases q with q|q
 ·exact h pins s σ H x v vl vu lo hi sl Q I rx hs pl pu q
 ·exact h' pins s σ H x v vl vu lo hi sl Q I rx hs pl pu q
def Zm6 (r:V->Option Int->Option Int->Hp->VK->Prop)(te:TE)(tl th:TO):TE:=fun σ H Q=>te σ H fun x H1=>tl σ H1 fun l H2=>th σ H2 fun u H3=>r x l u H3 Q
def Zal {r:V->Option Int->Option Int->Hp->VK->Prop}(hr:SlR X r)(he:PE X e te)(hl:PO X lo tl)(hu:PO X hi th):PE X (.Subscript e (.Slice lo hi none p2) pos) (Zm6 r te tl th):=by
 intro pins s σ H Q I h
 refine Subscript_ (Yx (he pins s σ H _ I h) fun v s1 ⟨x,H1,I1,r1,q1⟩=>?_)
 refine wpAny_Slice (Yx (hl pins s1 σ H1 _ I1 q1) fun vl s2 ⟨l,H2,I2,pl,q2⟩=>Yx (hu pins s2 σ H2 _ I2 q2) fun vu s3 ⟨u,H3,I3,pu,q3⟩=>?_)
 rw[evalPart_none]
 refine wpAny_pure ?_
 have I4:Inv X pins σ H3 {s3 with heap:=s3.heap.push {cls:=.type "slice", data:=.fields #[vl,vu,.none]}}:=I3.kept (t':=s3.toks) fun b ob q=>Heap.get?_push_of_some _ q
 obtain⟨T,id,hT,ht,hg⟩:=hr pins {s3 with heap:=s3.heap.push {cls:=.type "slice", data:=.fields #[vl,vu,.none]}} σ H3 x v vl vu l u s3.heap.objs.size Q I4 r1 (Heap.IsSliceOf.new ..) pl pu q3
 show wpAny (model X.prog X.w) X.A (subscriptTail e (.Slice lo hi none p2) v (.ref s3.heap.objs.size)) (EP X pins σ Q) X.xe {s3 with heap:=s3.heap.push {cls:=.type "slice", data:=.fields #[vl,vu,.none]}}
 exact tail_any (ops:=[.ref s3.heap.objs.size,v]) ht hT hg (by with_unfolding_all rfl)
def Aa (xs:List V)(lo hi:Option Int):List V:=(xs.drop (HT.sIx xs.length 0 lo)).take (HT.sIx xs.length xs.length hi-HT.sIx xs.length 0 lo)
def Ph (xs:List V)(lo hi:Option Int):(Aa xs lo hi).length<=xs.length:=by
 unfold Aa
 rw[List.length_take,List.length_drop]
 omega
def Zlz (K:PySem.W.Frag):V->Option Int->Option Int->Hp->VK->Prop:=fun x lo hi H Q=>∃a xs,x=.ref a/\SqT K H a xs /\
 ¬(HT.sIx xs.length 0 lo=0/\HT.sIx xs.length xs.length hi=xs.length)/\∀p,H p=none->Q (.ref p) (upd H p (.tup (Aa xs lo hi)))
def Zhd:SlR X (Zlz X.K):=by
 intro pins s σ H x v vl vu lo hi sl Q I rx hs pl pu h
 obtain⟨a,xs,rfl,hx,hw,q⟩:=h
 cases rx
 obtain⟨its,r,ht,hz⟩:=I.tuple hx
 have hlen:its.toArray.size=xs.length:=by rw[List.size_toArray];exact r.length.symm
 refine⟨"tuple", _,PyProof.Rows.slot_tuple_getitem.lookup,ht.typeIs,?_⟩
 refine HT.getItem_tuple_cut ht hs pl pu (by rw[hlen];exact hw) ?_ (by rw[hlen];exact hz)
 rw[hlen]
 refine⟨.ref s.heap.objs.size,_,I.laid (t':=s.toks) (o:=.tup (Aa xs lo hi)) (fun b ob q=>Heap.get?_push_of_some _ q) (Nat.le_refl _) ?_,rfl,q _ (I.hok.fresh (Nat.le_refl _))⟩
 exact⟨Nat.le_trans (Ph xs lo hi) hz,_,(r.drop (HT.sIx xs.length 0 lo)).take (HT.sIx xs.length xs.length hi-HT.sIx xs.length 0 lo),IsTup.new _ _⟩
def Zjx (K:PySem.W.Frag):R2:=fun x y H Q=>∃a b xs ys,x=.ref a/\y=.ref b/\SqT K H a xs/\SqT K H b ys/\xs≠[]/\xs.length+ys.length<=sizeLine /\
 (ys=[]->Q (.ref a) H)/\(ys≠[]->∀p,H p=none->Q (.ref p) (upd H p (.tup (xs++ys))))
def Vals.nil_iff {xs:List V}{us:List Value}(r:Vals xs us):us=[]↔xs=[]:=by
 cases r with
 |nil=>simp
 |cons _ _=>simp
def op_catT:OpR X (binaryOp .Add) (Zjx X.K):=by
 intro pins s σ H x y v u Q I rx ry h
 obtain⟨a,b,xs,ys,rfl,rfl,ha,hb,hx,hz,q1,q2⟩:=h
 cases rx
 cases ry
 obtain⟨its,r1,p1,_⟩:=I.tuple ha
 obtain⟨its2,r2,p2,_⟩:=I.tuple hb
 refine HT.cat_tup p1 p2 (fun z=>hx (r1.nil_iff.mp z)) (fun z=>⟨.ref a,H,I,rfl,q1 (r2.nil_iff.mp z)⟩) (fun z=>?_) (by rw[<-r1.length,<-r2.length];exact hz)
 refine⟨.ref s.heap.objs.size,_,I.laid (t':=s.toks) (o:=.tup (xs++ys)) (fun b ob q=>Heap.get?_push_of_some _ q) (Nat.le_refl _) ?_,rfl,q2 (fun w=>z (r2.nil_iff.mpr w)) _ (I.hok.fresh (Nat.le_refl _))⟩
 exact⟨by rw[List.length_append];exact hz,_,r1.append r2,IsTup.new _ _⟩
end
def Zhe (n:Nat)(i:Int):Option Nat:=if 0<=i then(if i<n then some i.toNat else none) else if -(n:Int)<=i then some (i+n).toNat else none
def Rm {α:Type}(xs:List α)(i:Int):Option α:=(Zhe xs.length i).bind fun j=>xs[j]?
def Zd0 {n:Nat}{i:Int}{j:Nat}(h:Zhe n i=some j):seqIndex? i n=some j/\j<n/\-(n:Int)<=i/\i<n:=by
 unfold Zhe at h
 by_cases h0:0<=i
 ·rw[if_pos h0] at h
  by_cases h1:i<n
  ·rw[if_pos h1] at h
   have e:i.toNat=j:=Option.some.inj h
   exact⟨by rw[seqIndex_of h0 h1,e],by omega,by omega,h1⟩
  ·rw[if_neg h1] at h;cases h
 ·rw[if_neg h0] at h
  by_cases h1:-(n:Int)<=i
  ·rw[if_pos h1] at h
   have e:(i+n).toNat=j:=Option.some.inj h
   exact⟨by rw[seqIndex_neg (by omega) h1,e],by omega,h1,by omega⟩
  ·rw[if_neg h1] at h;cases h
def Mg {α:Type}{xs:List α}{i:Int}{v:α}(h:Rm xs i=some v):∃j,seqIndex? i xs.length=some j/\xs[j]?=some v/\j<xs.length/\-(xs.length:Int)<=i/\i<xs.length:=by
 unfold Rm at h
 cases e:Zhe xs.length i with
 |none=>rw[e] at h;cases h
 |some j=>
  rw[e] at h
  obtain⟨h1,h2,h3,h4⟩:=Zd0 e
  exact⟨j,h1,h,h2,h3,h4⟩
def Xx {α:Type}{xs:List α}{j:Nat}{v:α}(h:xs[j]?=some v):Rm xs (j:Int)=some v:=by
 have hj:j<xs.length:=(List.getElem?_eq_some_iff.mp h).1
 have e:Zhe xs.length (j:Int)=some j:=by
  unfold Zhe
  rw[if_pos (by omega),if_pos (by omega)];simp
 unfold Rm;rw[e];exact h
def Es (b:Expr):Prop:=∀o i,subscripted b false o i=operate [o,i] (getItem o i)
def IxR (X:Cx)(r:R2):Prop:=
 ∀(value slice:Expr) (pins:List (Addr×Obj)) (s:Shared) (σ:St) (H:Hp) (x y:V) (v u:Value) (Q:VK),Inv X pins σ H s->RelV x v->RelV y u->r x y H Q ->
  subscripted slice false v u=operate [v,u] (getItem v u)->wpAny (model X.prog X.w) X.A (subscriptTail value slice v u) (EP X pins σ Q) X.xe s
def Zm7 (X:Cx)(id:String)(r:V->List V->Hp->VK->Prop):Prop:=
 ∀(pins:List (Addr×Obj)) (s:Shared) (σ:St) (H:Hp) (x:V) (xs:List V) (v:Value) (us:List Value) (Q:VK),Inv X pins σ H s->RelV x v->Vals xs us->r x xs H Q ->
  wpAny (model X.prog X.w) X.A (call (.builtin id) (v::us)) (EP X pins σ Q) X.xe s
section
variable {X:Cx}{a b:Expr}{ta tb:TE}{pos:Pos}
def IxR.or {r r':R2}(h:IxR X r)(h':IxR X r'):IxR X (fun x y H Q=>r x y H Q\/r' x y H Q):=by
 intro value slice pins s σ H x y v u Q I rx ry q hs
 rcases q with q|q
 ·exact h value slice pins s σ H x y v u Q I rx ry q hs
 ·exact h' value slice pins s σ H x y v u Q I rx ry q hs
def Zjy {r:R2}(hr:IxR X r)(ha:PE X a ta)(hb:PE X b tb)(hs:Es b):PE X (.Subscript a b pos) (Zi5 r ta tb):=by
 intro pins s σ H Q I h
 exact Subscript_ (Zg6 ha hb I h fun v u s2 x y H2 I2 rx ry q=>hr a b pins s2 σ H2 x y v u Q I2 rx ry q (hs _ _))
def Zjz (K:PySem.W.Frag):R2:=fun x y H Q=>∃p xs i v,x=.ref p/\y=.int i/\SqL K H p xs/\Rm xs i=some v/\Q v H
def Zj0 (K:PySem.W.Frag):R2:=fun x y H Q=>∃p xs i v,x=.ref p/\y=.int i/\SqT K H p xs/\Rm xs i=some v/\Q v H
def Zj1:R2:=fun x y H Q=>∃z i c,x=.str z/\y=.int i/\z.length<=sizeLine/\Rm z.cps.toList i=some c/\Q (.str ⟨#[c]⟩) H
def ix_list:IxR X (Zjz X.K):=by
 intro value slice pins s σ H x y v u Q I rx ry h hs
 obtain⟨p,xs,i,z,rfl,rfl,hq,he,q⟩:=h
 cases rx
 obtain⟨t,rfl⟩:=ry
 obtain⟨its,r,pl,hz⟩:=I.list hq
 obtain⟨j,h1,h2,h3,h4,h5⟩:=Mg he
 obtain⟨w,ew,rw'⟩:=r.get h2
 have hl:=r.length
 have hn:=Rh
 have fin:EP X pins σ Q w s:=⟨z,H,I,rw',q⟩
 by_cases h0:0<=i
 ·have hj:i.toNat=j:=by
   rw[seqIndex_of h0 h5] at h1
   exact Option.some.inj h1
  exact item_listR pl.isList h0 (by omega) (by rw[hj];simpa using ew) fin hs
 ·have hj:(i+(its.toArray.size:Int)).toNat=j:=by
   rw[seqIndex_neg (by omega) h4] at h1
   rw[List.size_toArray,<-hl]
   exact Option.some.inj h1
  exact subscriptTail_builtinR (x:=w) pl.isList.typeIs slot_list_getitem.lookup
   (wpAny_getItem_list_neg (Q:=fun r s'=>r=w/\EP X pins σ Q r s') pl.isList (by omega) (by rw[List.size_toArray]<;>omega) (by omega) (by rw[hj];simpa using ew) ⟨rfl,fin⟩) hs
def ix_tup:IxR X (Zj0 X.K):=by
 intro value slice pins s σ H x y v u Q I rx ry h hs
 obtain⟨p,xs,i,z,rfl,rfl,hq,he,q⟩:=h
 cases rx
 obtain⟨t,rfl⟩:=ry
 obtain⟨its,r,pl,hz⟩:=I.tuple hq
 obtain⟨j,h1,h2,h3,h4,h5⟩:=Mg he
 obtain⟨w,ew,rw'⟩:=r.get h2
 have hl:=r.length
 have hn:=Rh
 have fin:EP X pins σ Q w s:=⟨z,H,I,rw',q⟩
 exact subscriptTail_builtinR (x:=w) pl.typeIs slot_tuple_getitem.lookup
  (getItem_tuple (j:=j) (Q:=fun r s'=>r=w/\EP X pins σ Q r s') pl (by omega) (by omega) (by rw[List.size_toArray,<-hl];exact h1) (by simpa using ew) ⟨rfl,fin⟩) hs
def Zhf:IxR X Zj1:=by
 intro value slice pins s σ H x y v u Q I rx ry h hs
 obtain⟨z,i,c,rfl,rfl,hz,he,q⟩:=h
 obtain⟨t,rfl⟩:=rx
 obtain⟨t',rfl⟩:=ry
 obtain⟨j,h1,h2,h3,h4,h5⟩:=Mg he
 have hl:z.cps.toList.length=z.length:=by simp[Str.length]
 rw[hl] at h1 h4 h5
 have hn:=Rh
 exact tail_any (typeIs_str s z t) slot_str_getitem.lookup (getItem_str (c:=c) (by
  have e1:decide (i < -(2 ^ 63:Int))=false:=decide_eq_false (by omega)
  have e2:decide (i ≥ 2 ^ 63)=false:=decide_eq_false (by omega)
  rw[e1,e2,Bool.or_false]) (by rw[h1];simpa using h2) ⟨.str ⟨#[c]⟩,H,I.tok _,⟨_,rfl⟩,q⟩) hs
def Zm8 (K:PySem.W.Frag):R2:=fun x y H Q=>Zjz K x y H Q\/Zj0 K x y H Q\/Zj1 x y H Q
def Zhg:IxR X (Zm8 X.K):=ix_list.or (ix_tup.or Zhf)
def Mh (lo hi:Option Int)(n:Nat):(sliceBounds lo hi none n).1=((HT.sIx n 0 lo:Nat):Int)/\(sliceBounds lo hi none n).2.1=((HT.sIx n n hi:Nat):Int)/\(sliceBounds lo hi none n).2.2=1:=by
 refine⟨?_,?_,rfl⟩
 ·cases lo with
  |none=>simp[sliceBounds,HT.sIx]
  |some i=>
   simp only[sliceBounds,HT.sIx,Option.getD_none,show(1:Int) > 0 by decide,if_true]
   by_cases h:i<0
   ·simp only[h,if_true]<;>omega
   ·simp only[h,if_false]<;>omega
 ·cases hi with
  |none=>simp[sliceBounds,HT.sIx]
  |some i=>
   simp only[sliceBounds,HT.sIx,Option.getD_none,show(1:Int) > 0 by decide,if_true]
   by_cases h:i<0
   ·simp only[h,if_true]<;>omega
   ·simp only[h,if_false]<;>omega
def Ti (its:List Value)(lo hi:Option Int):slicePick its.toArray lo hi none=((its.drop (HT.sIx its.length 0 lo)).take (HT.sIx its.length its.length hi-HT.sIx its.length 0 lo)).toArray:=by
 obtain⟨h1,h2,h3⟩:=Mh lo hi its.toArray.size
 unfold slicePick
 rw[h1,h2,h3]
 simp only[sliceRange_one,pick_run,List.size_toArray]<;>rfl
def Zl0 (K:PySem.W.Frag):V->Option Int->Option Int->Hp->VK->Prop:=fun x lo hi H Q=>∃a xs,x=.ref a/\SqL K H a xs/\∀p,H p=none->Q (.ref p) (upd H p (.lst (Aa xs lo hi)))
def sl_list:SlR X (Zl0 X.K):=by
 intro pins s σ H x v vl vu lo hi sl Q I rx hs pl pu h
 obtain⟨a,xs,rfl,hx,q⟩:=h
 cases rx
 obtain⟨its,r,ht,hz⟩:=I.list hx
 have hlen:=r.length
 refine⟨"list", _,slot_list_getitem.lookup,ht.isList.typeIs,?_⟩
 refine wpAny_getItem_list_slice ht.isList hs pl pu .none (by simp) ?_ (by rw[List.size_toArray]<;>omega)
 rw[Ti,<-hlen]
 refine⟨.ref s.heap.objs.size,_,I.laid (t':=s.toks) (o:=.lst (Aa xs lo hi)) (fun b ob q=>Heap.get?_push_of_some _ q) (Nat.le_refl _) ?_,rfl,q _ (I.hok.fresh (Nat.le_refl _))⟩
 exact⟨Nat.le_trans (Ph xs lo hi) hz,_,0,(r.drop (HT.sIx xs.length 0 lo)).take (HT.sIx xs.length xs.length hi-HT.sIx xs.length 0 lo),Heap.get?_push_size _ rfl⟩
def call_len_seq:CallR X (.builtin "len") (fun xs H Q=>∃p ys,xs=[.ref p]/\(SqL X.K H p ys\/SqT X.K H p ys)/\Q (.int ys.length) H):=by
 intro pins s σ H xs us Q I r h
 obtain⟨p,ys,rfl,hq,q⟩:=h
 obtain⟨u,rfl,rx⟩:=U5 r
 cases rx
 have hn:=Rh
 rcases hq with hq|hq
 ·obtain⟨its,r',pl,hz⟩:=I.list hq
  have hlen:=r'.length
  exact Calls.call_len_list pl.isList (by simp only[List.size_toArray]<;>omega) ⟨.int ys.length,H,I.tok _,⟨s.toks+1,by rw[List.size_toArray,hlen]⟩,q⟩
 ·obtain⟨its,r',pl,hz⟩:=I.tuple hq
  have hlen:=r'.length
  exact len_tuple pl (by simp only[List.size_toArray]<;>omega) ⟨.int ys.length,H,I.tok _,⟨s.toks+1,by rw[List.size_toArray,hlen]⟩,q⟩
def Mi:CallR X (.builtin "len") (fun xs H Q=>∃z,xs=[.str z]/\z.length<=sizeLine/\Q (.int z.length) H):=by
 intro pins s σ H xs us Q I r h
 obtain⟨z,rfl,hz,q⟩:=h
 obtain⟨u,rfl,t,rfl⟩:=U5 r
 have hn:=Rh
 exact len_str (by omega) ⟨.int z.length,H,I.tok _,⟨_,rfl⟩,q⟩
def CallR.or {f:Value}{r r':List V->Hp->VK->Prop}(h:CallR X f r)(h':CallR X f r'):CallR X f (fun xs H Q=>r xs H Q\/r' xs H Q):=by
 intro pins s σ H xs us Q I rs q
 rcases q with q|q
 ·exact h pins s σ H xs us Q I rs q
 ·exact h' pins s σ H xs us Q I rs q
def Mj:CallR X (.type "list") (fun xs H Q=>∃p ys,xs=[.ref p]/\(SqL X.K H p ys\/SqT X.K H p ys)/\∀l,H l=none->Q (.ref l) (upd H l (.lst ys))):=by
 intro pins s σ H xs us Q I r h
 obtain⟨p,ys,rfl,hq,q⟩:=h
 obtain⟨u,rfl,rx⟩:=U5 r
 cases rx
 have fin:∀(its:List Value),Vals ys its->ys.length<=sizeLine->∀(h':Heap) (c':Nat),(∀b o',s.heap.get? b=some o'->h'.get? b=some o') ->
   h'.get? s.heap.objs.size=some {cls:=.type "list", dict:=none,data:=.seq its.toArray c',slots:=#[]}->EP X pins σ Q (.ref s.heap.objs.size) {s with heap:=h'}:=fun its r' hz h' c' kp e=>
  ⟨.ref s.heap.objs.size,_,I.laid (t':=s.toks) kp (Nat.le_refl _) (show ObjOk X.prog X.w _ h' _ (.lst ys) from⟨hz,its,c',r',e⟩),rfl,q _ (I.hok.fresh (Nat.le_refl _))⟩
 rcases hq with hq|hq
 ·obtain⟨its,r',pl,hz⟩:=I.list hq
  have hlen:=r'.length
  obtain⟨o,ho,hc,n,hd⟩:=pl.isList
  exact call_list_seq p (.inl rfl) ho hc hd (fun h' c' kp e=>fin its r' hz h' c' kp e) (by simp only[List.size_toArray]<;>omega)
 ·obtain⟨its,r',pl,hz⟩:=I.tuple hq
  have hlen:=r'.length
  obtain⟨o,ho,hc,n,hd⟩:=pl
  exact call_list_seq p (.inr rfl) ho hc hd (fun h' c' kp e=>fin its r' hz h' c' kp e) (by simp only[List.size_toArray]<;>omega)
def Tj:CallR X (.type "tuple") (fun xs H Q=>∃p ys,xs=[.ref p]/\((SqL X.K H p ys/\∀l,H l=none->Q (.ref l) (upd H l (.tup ys)))\/(SqT X.K H p ys/\Q (.ref p) H))):=by
 intro pins s σ H xs us Q I r h
 obtain⟨p,ys,rfl,h⟩:=h
 obtain⟨u,rfl,rx⟩:=U5 r
 cases rx
 rcases h with⟨hq,q⟩|⟨hq,q⟩
 ·obtain⟨its,r',pl,hz⟩:=I.list hq
  have hlen:=r'.length
  refine call_tuple_list pl.isList (fun h' kp=>?_) (by simp only[List.size_toArray]<;>omega)
  have I1:Inv X pins σ H {s with heap:=h'}:=I.kept (t':=s.toks) kp
  have I2:Inv X pins σ (upd H h'.objs.size (.tup ys)) {s with heap:=h'.push {cls:=.type "tuple", data:=.seq its.toArray}}:=
   I1.laid (t':=s.toks) (fun b o e=>Heap.get?_push_of_some _ e) (Nat.le_refl _) (show ObjOk X.prog X.w _ _ _ (.tup ys) from⟨hz,its,r',IsTup.new _ _⟩)
  exact⟨.ref h'.objs.size,_,I2,rfl,q _ (I1.hok.fresh (Nat.le_refl _))⟩
 ·obtain⟨its,r',pl,hz⟩:=I.tuple hq
  exact call_tuple_same pl ⟨.ref p,H,I,rfl,q⟩
def Zmp (K:PySem.W.Frag)(T:String)(x:V)(H:Hp):Prop:=match x with
 |.str _=>T="str"
 |.int _=>T="int"
 |.ref p=>(T="list"/\∃xs,SqL K H p xs)\/(T="tuple"/\∃o,K.lookup p=some o/\o.cls=.type "tuple"/\o.dict=none) \/
   (T="dict"/\((∃kvs,H p=some (.dK kvs))\/∃kvs,H p=some (.dT kvs)))\/(T="set"/\∃S n,H p=some (.set S n))
 |_=>False
def Zhh {pins:List (Addr×Obj)}{σ:St}{H:Hp}{s:Shared}{T:String}{x:V}{v:Value}(I:Inv X pins σ H s)(r:RelV x v)(ty:Zmp X.K T x H):
  s.TypeIs v T/\∀a,v=.ref a->∃ob,s.heap.get? a=some ob/\ob.dict=none:=by
 cases x with
 |str z=>
  obtain⟨t,rfl⟩:=r
  cases (show T="str" from ty)
  exact⟨typeIs_str s z t,fun _ e=>nomatch e⟩
 |int i=>
  obtain⟨t,rfl⟩:=r
  cases (show T="int" from ty)
  exact⟨typeIs_int s i t,fun _ e=>nomatch e⟩
 |ref p=>
  cases r
  rcases ty with⟨rfl,xs,hq⟩|⟨rfl,o,hk,hc,hd⟩|⟨rfl,hk⟩|⟨rfl,S,n,hk⟩
  ·obtain⟨its,_,pl,_⟩:=I.list hq
   refine⟨pl.isList.typeIs,fun a e=>?_⟩
   cases e
   obtain⟨o,n,e,c,hd,_⟩:=pl
   exact⟨o,e,hd⟩
  ·refine⟨⟨o,I.kIn p o hk,hc⟩,fun a e=>?_⟩
   cases e
   exact⟨o,I.kIn _ o hk,hd⟩
  ·have z:∃o,s.heap.get? p=some o/\o.ExactDict:=by
    rcases hk with⟨kvs,hk⟩|⟨kvs,hk⟩
    ·obtain⟨_,_,_,_,o,_,_,e,ex,_⟩:=I.hok p _ hk
     exact⟨o,e,ex⟩
    ·obtain⟨_,_,_,_,o,_,_,e,ex,_⟩:=I.hok p _ hk
     exact⟨o,e,ex⟩
   obtain⟨o,e,ex⟩:=z
   refine⟨⟨o,e,ex.1⟩,fun a e2=>?_⟩
   cases e2
   exact⟨o,e,ex.2.1⟩
  ·obtain⟨o,_,_,_,e,ex,_⟩:=I.hok p _ hk
   refine⟨⟨o,e,ex.1⟩,fun a e2=>?_⟩
   cases e2
   exact⟨o,e,ex.2.1⟩
 |_=>exact False.elim ty
def Zm9 (K:PySem.W.Frag)(T:String)(r:V->List V->Hp->VK->Prop)(to:TE)(t:TA):TE:=fun σ H Q=>to σ H fun x H1=>Zmp K T x H1/\t σ H1 fun xs H2=>r x xs H2 Q
variable {o e:Expr}{es:List Expr}{to:TE}{t:TA}{name:Str}{apos cpos:Pos}{T id:String}{r:V->List V->Hp->VK->Prop}
def Zam (pa:PlainAttrs T)(slot:Slot T name id) (hty:typeOf (.builtin id)=pure (.type "method_descriptor")) (hm:Zm7 X id r) (ho:PE X o to) (ha:PA X (e::es) t)
  (hbase:attributeBase o name X.env (eval o X.env)=eval o X.env:=by rfl)
  (hfew:((backTo cpos (starEach (e::es) X.env)).all (fun x=>!x.1)&&(backToKw cpos (keywordEach [] X.env)).all (fun x=>x.1.isSome)
   && decide ((e::es).length+([]:List Keyword).length+(if([]:List Keyword).isEmpty then 0 else 1)<30))=true:=by rfl)
  (hline:(apos.endLine==cpos.line)=true:=by rfl) (hs:starEach (e::es) X.env=(false,eval e X.env)::starEach es X.env:=by rfl) (hplain:(backTo cpos (starEach es X.env)).any (·.1)=false:=by rfl):
  PE X (.Call (.Attribute o name apos) (e::es) [] cpos) (Zm9 X.K T r to t):=by
 intro pins s σ H Q I h
 refine wpAny_Call_method_late hbase hfew hline rfl (Yx (ho pins s σ H _ I h) fun v s1 ⟨x,H1,I1,r1,ty,q1⟩=>?_)
 obtain⟨h1,h2⟩:=Zhh I1 r1 ty
 refine⟨T,id,pa,slot,hty,h1,h2,?_⟩
 have hA:=ha cpos pins s1 σ H1 _ I1 q1
 rw[hs] at hA ⊢
 refine Calls.callWith_builtin (by show(false||(backTo cpos (starEach es X.env)).any (·.1))=false;rw[hplain]<;>rfl) (Calls.evalArgs_plain ?_)
 exact Yx hA fun us s2 ⟨vs,H2,I2,r2,q2⟩=>hm pins s2 σ H2 x vs v us Q I2 r1 r2 q2
end
def Zmq (X:Cx)(id:String)(r:V->List V->Hp->VK->Prop):Prop:=
 ∀(pins:List (Addr×Obj)) (s:Shared) (σ:St) (H:Hp) (x:V) (xs:List V) (v:Value) (us:List Value) (Q:VK),Inv X pins σ H s->RelV x v->Vals xs us->r x xs H Q ->
  wpAny (model X.prog X.w) X.A (call (.builtin id) (v::us)) (EP X pins σ Q) X.xe s
def Vals.one:∀{x:V}{us:List Value},Vals [x] us->∃u,us=[u]/\RelV x u
 |_,_,.cons r .nil=>⟨_,rfl,r⟩
section
variable {X:Cx}{pins:List (Addr×Obj)}{σ:St}{H:Hp}{s:Shared}{l b:Addr}{xs ys zs:List V}
def Inv.lset {its its':List Value}{n:Nat}{f:Array Value->Array Value}{t':Nat}(I:Inv X pins σ H s)(hH:H l=some (.lst xs))
  (e:s.heap.get? l=some {cls:=.type "list", data:=.seq its.toArray n}) (hf:f its.toArray=its'.toArray) (hv:Vals ys its') (hz:ys.length<=sizeLine):
  Inv X pins σ (upd H l (.lst ys)) {s with heap:=s.heap.update l (Obj.mapSeq f),toks:=t'}:=by
 have q:=PySem.IsL.update e f
 rw[hf] at q
 refine I.write (x:=l) (e:=l) (by rw[hH];exact trivial) (.inl rfl) (fun b' u hb hu=>(Heap.get?_update_other s.heap (Obj.mapSeq f) (Ne.symm hb)).trans hu) ⟨_,q⟩ ?_
 exact⟨hz,its',_,hv,q⟩
def Inv.lnew {its:List Value}{t':Nat}(I:Inv X pins σ H s)(hv:Vals ys its)(hz:ys.length<=sizeLine):
  Inv X pins σ (upd H s.heap.objs.size (.lst ys)) {s with heap:=s.heap.push {cls:=.type "list", data:=.seq its.toArray},toks:=t'}:=
 I.laid (fun _ _ q=>Heap.get?_push_of_some _ q) (Nat.le_refl _) ⟨hz,its,0,hv,Heap.get?_push_size _ rfl⟩
theorem Inv.fresh (I:Inv X pins σ H s):H s.heap.objs.size=none:=I.hok.fresh (Nat.le_refl _)
def Inv.lstM (I:Inv X pins σ H s)(hH:H l=some (.lst xs)):xs.length<=sizeLine/\∃(its:List Value) (n:Nat),Vals xs its/\xs.length=its.length/\s.heap.get? l=some {cls:=.type "list", data:=.seq its.toArray n}:=by
 obtain⟨z,its,n,r,e⟩:=I.hok l _ hH
 exact⟨z,its,n,r,r.length,e⟩
def Zan {n:Nat}(h:n<=sizeLine):Builtin.List.listTooLong n=false:=by
 unfold Builtin.List.listTooLong
 exact decide_eq_false (by omega)
end
section
variable {X:Cx}
def Zd1:V->List V->Hp->VK->Prop:=fun x vs H Q=>∃l xs y,x=.ref l/\vs=[y]/\H l=some (.lst xs)/\xs.length<sizeLine/\Q .non (upd H l (.lst (xs++[y])))
def Wr:Zmq X "list.append" Zd1:=by
 intro pins s σ H x vs v us Q I rx rv h
 obtain⟨l,xs,y,rfl,rfl,hH,hz,q⟩:=h
 cases rx
 obtain⟨u,rfl,ru⟩:=rv.one
 obtain⟨z,its,n,r,hl,e⟩:=I.lstM hH
 refine call_meets F.slot_list_append ⟨_,e,rfl⟩ F.entry_list_append (F.args_list_append_2 _ _) (PySem.list_append l its.toArray n u (by rw[List.size_toArray];omega)) ⟨e,?_⟩
 refine⟨.non,_,I.lset (its':=its++[u]) hH e (by simp) (r.append (.cons ru .nil)) ?_,rfl,q⟩
 rw[List.length_append,List.length_singleton]
 omega
def Zd2:V->List V->Hp->VK->Prop:=fun x vs H Q=>∃l b xs zs,x=.ref l/\vs=[.ref b]/\H l=some (.lst xs)/\H b=some (.lst zs)/\xs.length+zs.length<=sizeLine/\Q .non (upd H l (.lst (xs++zs)))
def Ik:Zmq X "list.extend" Zd2:=by
 intro pins s σ H x vs v us Q I rx rv h
 obtain⟨l,b,xs,zs,rfl,rfl,hH,hB,hz,q⟩:=h
 cases rx
 obtain⟨u,rfl,ru⟩:=rv.one
 cases ru
 obtain⟨z,its,n,r,hl,e⟩:=I.lstM hH
 obtain⟨z2,its2,n2,r2,hl2,e2⟩:=I.lstM hB
 have hsz:its.toArray.size+its2.toArray.size<=sizeLine:=by rw[List.size_toArray,List.size_toArray];omega
 have hlong:¬(!its.toArray.isEmpty&&Builtin.List.listTooLong (its.toArray.size+its2.toArray.size))=true:=by
  rw[Zan hsz,Bool.and_false]
  exact Bool.false_ne_true
 refine call_meets F.slot_list_extend ⟨_,e,rfl⟩ F.entry_list_extend (F.args_list_extend_2 _ _)
  (AutoSeq1.list_extend_list_list_0 l its.toArray n b its2.toArray n2 hlong (by rw[List.size_toArray];omega) (by omega)) ⟨e,e2,?_⟩
 refine⟨.non,_,I.lset (its':=its++its2) hH e (by simp) (r.append r2) ?_,rfl,q⟩
 rw[List.length_append]
 omega
end
section
variable {κ:Type} [DecidableEq κ]
def Xy (kvs:List (κ×V))(k:κ):Option V:=(kvs.find? fun kv=>decide (kv.1=k)).map (·.2)
def Jx (kvs:List (κ×V))(k:κ)(v:V):List (κ×V):=
 if(kvs.any fun kv=>decide (kv.1=k))=true then kvs.map (fun kv=>if kv.1=k then(kv.1,v) else kv) else kvs++[(k,v)]
def Y9 {p:κ×V}{r:List (κ×V)}{k:κ}(e:p.1=k):Xy (p::r) k=some p.2:=by simp[Xy,List.find?_cons,e]
def Yy {p:κ×V}{r:List (κ×V)}{k:κ}(e:¬p.1=k):Xy (p::r) k=Xy r k:=by simp[Xy,List.find?_cons,e]
theorem Gg (k:κ):∀kvs:List (κ×V),(kvs.any fun kv=>decide (kv.1=k))=(Xy kvs k).isSome
 |[]=>rfl
 |p::r=>by
  rw[List.any_cons]
  by_cases e:p.1=k
  ·simp only[Y9 e,decide_eq_true e,Bool.true_or,Option.isSome_some]
  ·rw[Yy e,decide_eq_false e,Bool.false_or];exact Gg k r
theorem Ab (k j:κ)(y:V):∀kvs:List (κ×V),Xy (kvs.map fun kv=>if kv.1=k then(kv.1,y) else kv) j=(Xy kvs j).map fun x=>if j=k then y else x
 |[]=>rfl
 |p::r=>by
  have ih:=Ab k j y r
  rw[List.map_cons]
  by_cases h:p.1=k
  ·rw[if_pos h]
   by_cases e:p.1=j
   ·rw[Y9 (p:=(p.1,y)) e,Y9 e,Option.map_some,if_pos (e.symm.trans h)]
   ·rw[Yy (p:=(p.1,y)) e,Yy e,ih]
  ·rw[if_neg h]
   by_cases e:p.1=j
   ·rw[Y9 (p:=p) e,Y9 e,Option.map_some,if_neg (fun z=>h (e.trans z))]
   ·rw[Yy (p:=p) e,Yy e,ih]
theorem T4 (k j:κ)(y:V):∀kvs:List (κ×V),Xy kvs k=none->Xy (kvs++[(k,y)]) j=if j=k then some y else Xy kvs j
 |[],_=>by
  by_cases e:k=j
  ·rw[if_pos e.symm];exact Y9 (p:=(k,y)) e
  ·rw[if_neg (fun z=>e z.symm)];exact Yy (p:=(k,y)) e
 |p::r,hn=>by
  rw[List.cons_append]
  have hk:¬p.1=k:=fun z=>by rw[Y9 z] at hn;cases hn
  rw[Yy hk] at hn
  have ih:=T4 k j y r hn
  by_cases e:p.1=j
  ·rw[Y9 e,Y9 e,if_neg (fun z=>hk (e.trans z))]
  ·rw[Yy e,Yy e,ih]
def Zao (kvs:List (κ×V))(k j:κ)(y:V):Xy (Jx kvs k y) j=if j=k then some y else Xy kvs j:=by
 unfold Jx
 by_cases a:(kvs.any fun kv=>decide (kv.1=k))=true
 ·rw[if_pos a,Ab]
  rw[Gg] at a
  by_cases e:j=k
  ·obtain⟨x,hx⟩:=Option.isSome_iff_exists.mp a
   rw[if_pos e,e,hx,Option.map_some,if_pos rfl]
  ·rw[if_neg e]
   cases Xy kvs j with
   |none=>rfl
   |some x=>rw[Option.map_some,if_neg e]
 ·rw[if_neg a]
  refine T4 k j y kvs ?_
  rw[Gg] at a
  cases q:Xy kvs k with
  |none=>rfl
  |some x=>rw[q] at a;exact(a rfl).elim
def Va (kvs:List (κ×V))(k:κ)(v:V):(Jx kvs k v).length<=kvs.length+1:=by
 unfold Jx
 split
 ·rw[List.length_map];omega
 ·rw[List.length_append,List.length_cons,List.length_nil];omega
def RelO.isSome_eq {o:Option V}{u:Option Value}(r:RelO o u):o.isSome=u.isSome:=by
 cases o with
 |none=>cases u with
  |none=>rfl
  |some _=>exact(show False from r).elim
 |some _=>cases u with
  |none=>exact(show False from r).elim
  |some _=>rfl
theorem RelO.getD {o:Option V}{u:Option Value}{d:V}{d':Value}(r:RelO o u)(rd:RelV d d'):RelV (o.getD d) (u.getD d'):=by
 cases o with
 |none=>cases u with
  |none=>exact rd
  |some _=>exact(show False from r).elim
 |some _=>cases u with
  |none=>exact(show False from r).elim
  |some _=>exact r
def KV.val {kvs:List (κ×V)}{vs:List (κ×Value)}(r:KV kvs vs)(k:κ):RelO (Xy kvs k) (valueAt vs k):=by
 unfold KV at r
 induction r with
 |nil=>exact True.intro
 | @cons p q ps qs h t ih=>
  obtain⟨h1,h2⟩:=h
  by_cases e:p.1=k
  ·have e':q.1=k:=h1.symm.trans e
   have b:valueAt (q::qs) k=some q.2:=by simp[valueAt,List.find?_cons,e']
   rw[Y9 e,b];exact h2
  ·have e':¬q.1=k:=fun z=>e (h1.trans z)
   have b:valueAt (q::qs) k=valueAt qs k:=by simp[valueAt,List.find?_cons,e']
   rw[Yy e,b];exact ih
theorem KV.any {kvs:List (κ×V)}{vs:List (κ×Value)}(r:KV kvs vs)(k:κ):(kvs.any fun kv=>decide (kv.1=k))=vs.any fun kv=>decide (kv.1=k):=by
 unfold KV at r
 induction r with
 |nil=>rfl
 |cons h t ih=>rw[List.any_cons,List.any_cons,ih,h.1]
def KV.repl {kvs:List (κ×V)}{vs:List (κ×Value)}(r:KV kvs vs)(k:κ){y:V}{u:Value}(ry:RelV y u):
  KV (kvs.map fun kv=>if kv.1=k then(kv.1,y) else kv) (vs.map fun kv=>if kv.1=k then(kv.1,u) else kv):=by
 unfold KV at r ⊢
 induction r with
 |nil=>exact .nil
 | @cons p q ps qs h t ih=>
  rw[List.map_cons,List.map_cons]
  refine .cons ?_ ih
  obtain⟨h1,h2⟩:=h
  by_cases e:p.1=k
  ·rw[if_pos e,if_pos (h1.symm.trans e)];exact⟨h1,ry⟩
  ·rw[if_neg e,if_neg (fun z=>e (h1.trans z))];exact⟨h1,h2⟩
def KV.put {kvs:List (κ×V)}{vs:List (κ×Value)}(r:KV kvs vs)(k:κ){y:V}{u:Value}(ry:RelV y u):KV (Jx kvs k y) (stored vs k u):=by
 unfold Jx stored
 rw[r.any k]
 by_cases e:(vs.any fun kv=>decide (kv.1=k))=true
 ·rw[if_pos e,if_pos e];exact r.repl k ry
 ·rw[if_neg e,if_neg e];exact Paired.snoc r ⟨rfl,ry⟩
theorem KV.length {kvs:List (κ×V)}{vs:List (κ×Value)}(r:KV kvs vs):kvs.length=vs.length:=Paired.length r
end
def Ac {P:Program}{w:World}{k:Yo}{u:Value}(r:RelV (kV k) u):(Y5 P w).is k u=true:=by
 cases k with
 |inl i=>obtain⟨t,e⟩:=(show ∃t,u=Value.int i t from r);subst e;exact B3 P w i t
 |inr x=>obtain⟨t,e⟩:=(show ∃t,u=Value.str x t from r);subst e;exact B4 P w x t
theorem T5 {P:Program}{w:World}:∀{ks:List Yo}{us:List Value},Vals (ks.map kV) us->ItemsAre (Y5 P w) ks us
 |[],_,r=>by rw[List.map_nil] at r;cases r;exact .nil
 |k::ks,_,r=>by
  rw[List.map_cons] at r
  cases r with
  |cons h t=>exact .cons (Ac h) (T5 t)
abbrev KT (H:Hp):List (List Yo×V)->List (List Yo×Addr×Value)->Prop:=Paired fun p q=>p.1=q.1/\H q.2.1=some (.tup (p.1.map kV))/\RelV p.2 q.2.2
def KT.val {H:Hp}{kvs:List (List Yo×V)}{xs:List (List Yo×Addr×Value)}(r:KT H kvs xs)(k:List Yo):RelO (Xy kvs k) ((atKey xs k).map (·.2)):=by
 induction r with
 |nil=>exact True.intro
 | @cons p q ps qs h t ih=>
  obtain⟨h1,_,h2⟩:=h
  by_cases e:p.1=k
  ·have e':q.1=k:=h1.symm.trans e
   have b:atKey (q::qs) k=some q.2:=by simp[atKey,List.find?_cons,e']
   rw[Y9 e,b];exact h2
  ·have e':¬q.1=k:=fun z=>e (h1.trans z)
   have b:atKey (q::qs) k=atKey qs k:=by simp[atKey,List.find?_cons,e']
   rw[Yy e,b];exact ih
def KT.repl {H:Hp}{kvs:List (List Yo×V)}{xs:List (List Yo×Addr×Value)}(r:KT H kvs xs)(k:List Yo){y:V}{u:Value}(ry:RelV y u):
  KT H (kvs.map fun kv=>if kv.1=k then(kv.1,y) else kv) (xs.map (putAt k u)):=by
 induction r with
 |nil=>exact .nil
 | @cons p q ps qs h t ih=>
  rw[List.map_cons,List.map_cons]
  refine .cons ?_ ih
  obtain⟨h1,h2,h3⟩:=h
  unfold putAt
  by_cases e:p.1=k
  ·rw[if_pos e,if_pos (h1.symm.trans e)];exact⟨h1,h2,ry⟩
  ·rw[if_neg e,if_neg (fun z=>e (h1.trans z))];exact⟨h1,h2,h3⟩
def KT.put {H:Hp}{kvs:List (List Yo×V)}{xs:List (List Yo×Addr×Value)}(r:KT H kvs xs)(k:List Yo){b:Addr}{y:V}{u:Value}(hb:H b=some (.tup (k.map kV)))(ry:RelV y u):
  KT H (Jx kvs k y) (storedH xs k b u):=by
 have e:(kvs.any fun kv=>decide (kv.1=k))=(atKey xs k).isSome:=by
  rw[Gg,(r.val k).isSome_eq,Option.isSome_map]
 unfold Jx storedH
 rw[e]
 by_cases q:(atKey xs k).isSome=true
 ·rw[if_pos q,if_pos q];exact r.repl k ry
 ·rw[if_neg q,if_neg q];exact Paired.snoc r ⟨rfl,hb,ry⟩
def KT.keeps {H H':Hp}{kvs:List (List Yo×V)}{xs:List (List Yo×Addr×Value)}(r:KT H kvs xs)(ht:∀b ys,H b=some (.tup ys)->H' b=some (.tup ys)):KT H' kvs xs:=
 Paired.mapP r fun _ _ z=>⟨z.1,ht _ _ z.2.1,z.2.2⟩
section
variable {P:Program}{w:World}{H:Hp}{h:Heap}{a:Addr}
def Zf1 {u:HO}(ok:HOk P w H h)(e:Rd H a u):ObjOk P w H h a u:=e.ok ok
def T6 {kvs:List (Yo×V)}(ok:HOk P w H h)(e:Rd H a (.dK kvs)):kvs.length<=sizeLine/\(a==sysModules)=false/\∃vs,KV kvs vs/\h.DictOf (Y5 P w) a vs:=
 show ObjOk P w H h a (.dK kvs) from Zf1 ok e
def Zj2 {kvs:List (Yo×V)}(ok:HOk P w H h)(e:H a=some (.dK kvs)):kvs.length<=sizeLine/\(a==sysModules)=false/\∃vs,KV kvs vs/\h.DictOf (Y5 P w) a vs:=T6 ok (.inl e)
def Nk {ks:List Yo}(ok:HOk P w H h)(e:H a=some (.tup (ks.map kV))):(tupleKind (Y5 P w)).is h ks a:=by
 obtain⟨_,its,r,o,h1,h2,n,h3⟩:=(show ObjOk P w H h a (.tup (ks.map kV)) from ok a _ e)
 exact⟨o,its.toArray,n,h1,h2,h3,by simpa using T5 r⟩
def T7 {kvs:List (List Yo×V)}(ok:HOk P w H h)(e:Rd H a (.dT kvs)):kvs.length<=sizeLine/\(a==sysModules)=false /\
  ∃xs,KT H kvs xs/\h.DictOfH (tupleKind (Y5 P w)) a xs:=by
 obtain⟨z,y,xs,r,o,es,ep,h1,h2,h3,h4,h5⟩:=(show ObjOk P w H h a (.dT kvs) from Zf1 ok e)
 refine⟨z,y,xs,r,o,es,ep,h1,h2,h3,h4,fun x hx=>?_,h5⟩
 have all:∀{l:List (List Yo×V)}{m:List (List Yo×Addr×Value)},KT H l m->∀x∈m,(tupleKind (Y5 P w)).is h x.1 x.2.1:=by
  intro l m q
  induction q with
  |nil=>intro x hx;exact nomatch hx
  | @cons p q ps qs hq t ih=>
   intro x hx
   rcases List.mem_cons.mp hx with e|hx
   ·subst e
    exact Nk ok (by rw[<-hq.1];exact hq.2.1)
   ·exact ih x hx
 exact all r x hx
def Zf2 {kvs:List (List Yo×V)}(ok:HOk P w H h)(e:H a=some (.dT kvs)):kvs.length<=sizeLine/\(a==sysModules)=false /\
  ∃xs,KT H kvs xs/\h.DictOfH (tupleKind (Y5 P w)) a xs:=T7 ok (.inl e)
end
def DGet (H:Hp)(a:Addr)(y:V)(r:Option V):Prop:=
 (∃kvs k,Rd H a (.dK kvs)/\y=kV k/\r=Xy kvs k)\/∃kvs k b,Rd H a (.dT kvs)/\y=.ref b/\H b=some (.tup (k.map kV))/\r=Xy kvs k
def DPut (H:Hp)(a:Addr)(y v:V)(H':Hp):Prop:=
 (∃kvs k,H a=some (.dK kvs)/\y=kV k/\kvs.length<sizeLine/\H'=upd H a (.dK (Jx kvs k v))) \/
 ∃kvs k b,H a=some (.dT kvs)/\y=.ref b/\H b=some (.tup (k.map kV))/\kvs.length<sizeLine/\H'=upd H a (.dT (Jx kvs k v))
def DGet.t {H:Hp}{a b:Addr}{kvs:List (List Yo×V)}{k:List Yo}(e:H a=some (.dT kvs))(eb:H b=some (.tup (k.map kV))):DGet H a (.ref b) (Xy kvs k):=.inr ⟨kvs,k,b,.inl e,rfl,eb,rfl⟩
def DPut.t {H:Hp}{a b:Addr}{kvs:List (List Yo×V)}{k:List Yo}{v:V}(e:H a=some (.dT kvs))(eb:H b=some (.tup (k.map kV)))(hl:kvs.length<sizeLine):
  DPut H a (.ref b) v (upd H a (.dT (Jx kvs k v))):=.inr ⟨kvs,k,b,e,rfl,eb,hl,rfl⟩
section
variable {X:Cx}{pins:List (Addr×Obj)}{σ:St}{H:Hp}{s:Shared}{a:Addr}{y v:V}{u r:Value}{o:Option V}{A:Around}{E:Value->Shared->Prop}
def Inv.big (I:Inv X pins σ H s):sysModules<s.heap.objs.size:=by
 have h:mainGlobals<s.heap.objs.size:=(I.mod.glob.keeps I.bk).lt
 exact Nat.lt_trans (by decide) h
def Il {Q:Value->Shared->Prop}(hu:A.units+1<cLine)(I:Inv X pins σ H s)(g:DGet H a y (some v))(ry:RelV y u)(h:∀w' s',Inv X pins σ H s'->RelV v w'->Q w' s'):
  wpAny (model X.prog X.w) A (getItem (.ref a) u) Q E s:=by
 rcases g with⟨kvs,k,e,ey,l⟩|⟨kvs,k,b,e,ey,eb,l⟩
 ·subst ey
  obtain⟨z,hd,vs,rel,dd⟩:=T6 I.hok e
  obtain⟨w',hw,rw'⟩:=RelO.some_of (v:=v) (o:=valueAt vs k) (by rw[l];exact rel.val k)
  exact wpAny_getItem_of (Ac ry) dd.mapOf hw (h w' _ (I.tok _) rw')
 ·subst ey
  cases (show u=Value.ref b from ry)
  obtain⟨z,hd,xs,rel,dd⟩:=T7 I.hok e
  obtain⟨w',hw,rw'⟩:=RelO.some_of (v:=v) (o:=(atKey xs k).map (·.2)) (by rw[l];exact rel.val k)
  obtain⟨p,hp,hp2⟩:=Option.map_eq_some_iff.mp hw
  refine wpAny_getItem_heap (tupleKind_room_in1 hu) (Nk I.hok eb) dd hp ?_
  rw[hp2]
  exact h w' _ (I.tok _) rw'
def Zd3 {Q:Value->Shared->Prop}(hu:A.units+1<cLine)(I:Inv X pins σ H s)(g:DGet H a y o)(ry:RelV y u)(h:∀s',Inv X pins σ H s'->Q (.bool (!o.isSome)) s'):
  wpAny (model X.prog X.w) A (compareOp .NotIn u (.ref a)) Q E s:=by
 rcases g with⟨kvs,k,e,ey,l⟩|⟨kvs,k,b,e,ey,eb,l⟩
 ·subst ey
  obtain⟨z,hd,vs,rel,dd⟩:=T6 I.hok e
  refine wpAny_notIn_of (Ac ry) hd dd.mapOf ?_
  rw[<-(rel.val k).isSome_eq,<-l]
  exact h _ (I.tok _)
 ·subst ey
  cases (show u=Value.ref b from ry)
  obtain⟨z,hd,xs,rel,dd⟩:=T7 I.hok e
  refine wpAny_notIn_heap (tupleKind_room_in1 hu) (Nk I.hok eb) hd dd ?_
  have q:=(rel.val k).isSome_eq
  rw[Option.isSome_map] at q
  rw[<-q,<-l]
  exact h _ (I.tok _)
def Ml {h':Heap}{t':Nat}{ob:HO}(I:Inv X pins σ H s)(mu:Zjd (H a))(hs:Heap.SameBut a s.heap h')(he:∃q,h'.get? a=some q)(new:ObjOk X.prog X.w (upd H a ob) h' a ob):
  Inv X pins σ (upd H a ob) {s with heap:=h',toks:=t'}:=
 I.write (x:=a) (e:=a) mu (.inl rfl) (fun b q hb z=>(hs.2 b hb).trans z) he new
def Zhi {P:Program}{w:World}{H':Hp}{h':Heap}{kvs:List (Yo×V)}{vs:List (Yo×Value)}(z:kvs.length<=sizeLine)(hd:(a==sysModules)=false)(rel:KV kvs vs)(dd:h'.DictOf (Y5 P w) a vs):
  ObjOk P w H' h' a (.dK kvs):=⟨z,hd,vs,rel,dd⟩
def Im {H':Hp}{Q:Unit->Shared->Prop}(hu:A.units+1<cLine)(I:Inv X pins σ H s)(g:DPut H a y v H')(ry:RelV y u)(rv:RelV v r)(h:∀s',Inv X pins σ H' s'->Q () s'):
  wpAny (model X.prog X.w) A (setItem (.ref a) u r) Q E s:=by
 rcases g with⟨kvs,k,e,ey,l,eH⟩|⟨kvs,k,b,e,ey,eb,l,eH⟩
 ·subst ey eH
  obtain⟨z,hd,vs,rel,dd⟩:=Zj2 I.hok e
  have hz:vs.length<=sizeLine:=by rw[<-rel.length];exact z
  have hl:(Jx kvs k v).length<=sizeLine:=by have:=Va kvs k v;omega
  refine wpAny_setItem_pairs (hsz:=hz) (Ac ry) dd fun h' dd' hs=>h _ ?_
  have he:∃q,h'.get? a=some q:=let ⟨q,_,_,hq,_⟩:=dd';⟨q,hq⟩
  exact Ml I (by rw[e];exact True.intro) hs he (Zhi hl hd (rel.put k rv) dd')
 ·subst ey eH
  cases (show u=Value.ref b from ry)
  obtain⟨z,hd,xs,rel,dd⟩:=Zf2 I.hok e
  have hz:xs.length<=sizeLine:=by rw[<-Paired.length rel];exact z
  have hl:(Jx kvs k v).length<=sizeLine:=by have:=Va kvs k v;omega
  refine wpAny_setItem_heap (hsz:=hz) (tupleKind_room_in1 hu) (Nk I.hok eb) dd fun h' dd' hs=>h _ ?_
  obtain⟨q,es,ep,hq,h2,h3,h4,_,h5⟩:=dd'
  refine Ml I (by rw[e];exact True.intro) hs ⟨q,hq⟩ ⟨hl,hd,_,(rel.put k eb rv).keeps fun c ys ec=>?_,q,es,ep,hq,h2,h3,h4,h5⟩
  rw[Zn (Zfv ec e (fun z=>nomatch z))]
  exact ec
end
def Zj3 (i:Expr):Prop:=∀ov iv,subscripted i false ov iv=operate [ov,iv] (getItem ov iv)
def Zd4 {prog:Program}{w:World}{A:Around}{E:Value->Shared->Prop}{s:Shared}{env:Env}{value slice:Expr}{pos:Pos}{T id:String}{Q:Value->Shared->Prop}
  (hl:typeLookup (.type T) "__getitem__"=pure (some (.builtin id))) (hs:Zj3 slice)
  (h:wpAny (model prog w) A (eval value env) (fun o s₁=>wpAny (model prog w) A (eval slice env) (fun i s₂=>s₂.TypeIs o T/\wpAny (model prog w) A (getItem o i) Q E s₂) E s₁) E s):
  wpAny (model prog w) A (eval (.Subscript value slice pos) env) Q E s:=by
 refine Subscript_ (wpAny_mono h (fun o s₁ h₁=>wpAny_mono h₁ (fun i s₂ h₂=>?_) fun _ _ x=>x) fun _ _ x=>x)
 obtain⟨hT,h₂⟩:=h₂
 unfold subscriptTail
 refine wpAny_bind ?_
 rw[getitemInPython_of_ne hT.not_modules]
 refine wpAny_bind (wpAny_specialOf hT hl ?_)
 have fin:wpAny (model prog w) A (subscripted slice false o i) (fun r s₃=>wpAny (model prog w) A (letTemporaryGo value o r>>=fun _=>pure r) Q E s₃) E s₂:=by
  rw[hs o i]
  exact wpAny_operating (wpAny_mono h₂ (fun r s₃ h₃=>wpAny_bind (wpAny_letTemporaryGo (wpAny_pure h₃))) fun _ _ x=>x)
 first
  |exact wpAny_pure (wpAny_bind fin)
  |exact wpAny_bind (wpAny_pure (wpAny_bind fin))
  |exact wpAny_bind fin
def Ae {X:Cx}{pins:List (Addr×Obj)}{σ:St}{H:Hp}{s:Shared}{a:Addr}{y:V}{o:Option V}(I:Inv X pins σ H s)(g:DGet H a y o):s.TypeIs (.ref a) "dict":=by
 rcases g with⟨kvs,k,e,_,_⟩|⟨kvs,k,b,e,_,_,_⟩
 ·obtain⟨_,_,vs,_,dd⟩:=T6 I.hok e
  exact dd.typeIs
 ·obtain⟨_,_,xs,_,dd⟩:=T7 I.hok e
  exact dd.typeIs
def Zj4 (td ty:TE):TE:=fun σ H Q=>td σ H fun x H1=>ty σ H1 fun y H2=>∃a v,x=.ref a/\DGet H2 a y (some v)/\Q v H2
def Zd5 (ty td:TE):TE:=fun σ H Q=>ty σ H fun y H1=>td σ H1 fun x H2=>∃a o,x=.ref a/\DGet H2 a y o/\Q (.bl (!o.isSome)) H2
def Zj5 (td ty tv:TE):TS:=fun D σ H=>tv σ H fun v H1=>td σ H1 fun x H2=>ty σ H2 fun y H3=>∃a H4,x=.ref a/\DPut H3 a y v H4/\D.nx σ H4
section
variable {X:Cx}{o i e value:Expr}{pos pos' tpos:Pos}{td ty tv:TE}
def Zd6 (hu:X.A.units+1<cLine)(ho:PE X o td)(hi:PE X i ty)(hs:Zj3 i):PE X (.Subscript o i pos) (Zj4 td ty):=by
 intro pins s σ H Q I h
 refine Zd4 PySem.F.slot_dict_getitem.lookup hs (Yx (ho pins s σ H _ I h) fun u s1 ⟨x,H1,I1,rx,q1⟩=>Yx (hi pins s1 σ H1 _ I1 q1) fun iv s2 ⟨y,H2,I2,ry,a,v,ex,g,q2⟩=>?_)
 subst ex
 obtain rfl:u=Value.ref a:=rx
 exact⟨Ae I2 g,Il hu I2 g ry fun w' s3 I3 rw'=>⟨v,H2,I3,rw',q2⟩⟩
def Ip (hu:X.A.units+1<cLine)(hi:PE X i ty)(ho:PE X o td):PC X .NotIn i o (Zd5 ty td):=by
 intro pins s σ H Q I h
 refine Yx (hi pins s σ H _ I h) fun iv s1 ⟨y,H1,I1,ry,q1⟩=>Yx (ho pins s1 σ H1 _ I1 q1) fun u s2 ⟨x,H2,I2,rx,a,ov,ex,g,q2⟩=>?_
 subst ex
 obtain rfl:u=Value.ref a:=rx
 exact Zd3 hu I2 g ry fun s3 I3=>⟨.bl (!ov.isSome),H2,I3,rfl,q2⟩
def Zd7 (hu:X.A.units+1<cLine)(ho:PE X o td)(hi:PE X i ty)(hv:PE X value tv)(hs:swapsWith value (some (.Subscript o i pos')) pos.line X.env=pure false):
  PS X (.Assign [.Subscript o i pos'] value pos) (Zj5 td ty tv):=by
 intro pins s σ H D I h
 refine wpAny_Assign_Subscript (Yx (hv pins s σ H _ I h) fun r s1 ⟨v,H1,I1,rv,q1⟩=>Yx (ho pins s1 σ H1 _ I1 q1) fun u s2 ⟨x,H2,I2,rx,q2⟩=>Yx (hi pins s2 σ H2 _ I2 q2) fun iv s3 ⟨y,H3,I3,ry,a,H4,ex,g,q3⟩=>?_) hs
 subst ex
 obtain rfl:u=Value.ref a:=rx
 exact Im hu I3 g ry rv fun s4 I4=>⟨σ,H4,I4,q3⟩
end
def Zap {P:Program}{w:World}{H:Hp}(h:Heap)(hb:sysModules<h.objs.size):ObjOk P w H (h.push {cls:=.type "dict", data:=.dict #[]}) h.objs.size (.dT []):=
 ⟨Nat.zero_le _,beq_eq_false_iff_ne.mpr (Ne.symm (Nat.ne_of_lt hb)),[],.nil,_,#[],0,Heap.get?_push_size _ rfl,⟨rfl,rfl,rfl⟩,rfl,rfl,List.nodup_nil⟩
def Zhj:TE:=fun _ H Q=>∀p,H p=none->Q (.ref p) (upd H p (.dT []))
section
variable {X:Cx}{pos:Pos}
def Af:PE X (.Dict [] [] pos) Zhj:=fun pins s σ H Q I h=>
 wpAny_Dict_empty ⟨.ref s.heap.objs.size,_,I.laid (a:=s.heap.objs.size) (o:=.dT []) (t':=s.toks) (fun _ _ q=>Heap.get?_push_of_some _ q) (Nat.le_refl _) (Zap s.heap I.big),rfl,h _ (I.hok.fresh (Nat.le_refl _))⟩
end
structure M2 (X:Cx) (o:Expr) (m:Str) (apos:Pos) (e f:Expr) (cpos:Pos):Prop where
 base:attributeBase o m X.env (eval o X.env)=eval o X.env
 few:((backTo cpos (starEach [e,f] X.env)).all (fun x=>!x.1)&&(backToKw cpos (keywordEach [] X.env)).all (fun x=>x.1.isSome)
  && decide (([e,f]:List Expr).length+([]:List Keyword).length+(if([]:List Keyword).isEmpty then 0 else 1)<30))=true
 line:(apos.endLine==cpos.line)=true
 trees:backTo cpos (starEach [e,f] X.env)=[(false,eval e X.env),(false,eval f X.env)]
def Zl1 (H:Hp)(a:Addr):Prop:=(∃kvs,Rd H a (.dK kvs))\/∃kvs,Rd H a (.dT kvs)
def Zaq {X:Cx}{pins:List (Addr×Obj)}{σ:St}{H:Hp}{s:Shared}{a:Addr}(I:Inv X pins σ H s)(d:Zl1 H a):
  s.TypeIs (.ref a) "dict"/\(∀b,Value.ref a=.ref b->∃ob,s.heap.get? b=some ob/\ob.dict=none)/\(a==sysModules)=false:=by
 rcases d with⟨kvs,e⟩|⟨kvs,e⟩
 ·obtain⟨_,hd,vs,_,dd⟩:=T6 I.hok e
  refine⟨dd.typeIs,fun b q=>?_,hd⟩
  cases q
  obtain⟨ob,_,_,h1,h2,_⟩:=dd
  exact⟨ob,h1,h2.2.1⟩
 ·obtain⟨_,hd,xs,_,dd⟩:=T7 I.hok e
  refine⟨dd.typeIs,fun b q=>?_,hd⟩
  cases q
  obtain⟨ob,_,_,h1,h2,_⟩:=dd
  exact⟨ob,h1,h2.2.1⟩
section
variable {X:Cx}{pins:List (Addr×Obj)}{σ:St}{H:Hp}{s:Shared}{a:Addr}{y d:V}{u r:Value}{o:Option V}{A:Around}{E:Value->Shared->Prop}
def Zhk {Q:Value->Shared->Prop}(hu:A.units+1<cLine)(I:Inv X pins σ H s)(g:DGet H a y o)(ry:RelV y u)(rd:RelV d r)(h:∀w' s',Inv X pins σ H s'->RelV (o.getD d) w'->Q w' s'):
  wpAny (model X.prog X.w) A (call (.builtin "dict.get") [.ref a,u,r]) Q E s:=by
 rcases g with⟨kvs,k,e,ey,l⟩|⟨kvs,k,b,e,ey,eb,l⟩
 ·subst ey
  obtain⟨z,hd,vs,rel,dd⟩:=T6 I.hok e
  refine call_meetsIn PySem.F.slot_dict_get dd.typeIs PySem.F.entry_dict_get (PySem.F.args_dict_get_3 _ _ _) (meets_dict_get_default (Y5 X.prog X.w) a (Ac ry) hd r) ⟨_,dd.mapOf,h _ _ (I.tok _) ?_⟩
  rw[l]
  exact(rel.val k).getD rd
 ·subst ey
  cases (show u=Value.ref b from ry)
  obtain⟨z,hd,xs,rel,dd⟩:=T7 I.hok e
  refine call_meetsIn PySem.F.slot_dict_get dd.typeIs PySem.F.entry_dict_get (PySem.F.args_dict_get_3 _ _ _) (meetsH_dict_get_default (tupleKind (Y5 X.prog X.w)) a b hd r) ⟨tupleKind_room_in1 hu,k,xs,Nk I.hok eb,dd,h _ _ (I.tok _) ?_⟩
  rw[l]
  exact(rel.val k).getD rd
end
def Zhl (td ty tx:TE):TE:=fun σ H Q=>td σ H fun x H1=>∃a,x=.ref a/\Zl1 H1 a/\ty σ H1 fun y H2=>tx σ H2 fun z H3=>∃o,DGet H3 a y o/\Q (o.getD z) H3
section
variable {X:Cx}{o e f:Expr}{apos cpos:Pos}{td ty tx:TE}
def Zar (hu:X.A.units+1<cLine)(ho:PE X o td)(he:PE X e ty)(hf:PE X f tx) (m:M2 X o "get" apos e f cpos):PE X (.Call (.Attribute o "get" apos) [e,f] [] cpos) (Zhl td ty tx):=by
 intro pins s σ H Q I h
 refine wpAny_Call_method m.base m.few m.line PySem.F.plainAttrs_dict PySem.F.slot_dict_get PySem.F.type_dict_get (Yx (ho pins s σ H _ I h) fun u s1 ⟨x,H1,I1,rx,a,ex,d,q1⟩=>?_)
 subst ex
 obtain rfl:u=Value.ref a:=rx
 obtain⟨t1,t2,_⟩:=Zaq I1 d
 refine⟨t1,t2,?_⟩
 rw[m.trees]
 refine Calls.callWith_builtin rfl (Calls.evalArgs_plain (Calls.spliced_cons (Yx (he pins s1 σ H1 _ I1 q1) fun iv s2 ⟨y,H2,I2,ry,q2⟩=>
  Calls.spliced_cons (Yx (hf pins s2 σ H2 _ I2 q2) fun fv s3 ⟨z,H3,I3,rz,ov,g,q3⟩=>Calls.spliced_nil ?_))))
 exact Zhk hu I3 g ry rz fun w' s4 I4 rw'=>⟨_,H3,I4,rw',q3⟩
end
end L2
namespace Att
open PySem PySem.W PySem.Calls PyProof.Rows
def Pp {P:Params}{h:Heap}:∀(ns:List Int) (vs:List Value),WellAll P h vs (ns.map WData.int)->IntsAre vs ns:=by
 intro ns
 induction ns with
 |nil=>
  intro vs w
  rw[List.map_nil] at w
  cases w
  exact .nil
 |cons n ns ih=>
  intro vs w
  rw[List.map_cons] at w
  cases w with
  |cons a b=>
   cases a
   exact .cons _ _ (ih _ b)
def Iq {l:OpenLaw}{n:Nat}(hn:l.most=some n){P:Params}{h:Heap}{args:List WData}{vals:List Value}(hpre:l.row.toRowW.claim.pre args=true)(hwl:WellAll P h vals args):
  ∃a vs ns,vals=[Value.ref a]/\args=[WData.list (ns.map WData.int)]/\h.get? a=some {cls:=.type "list", data:=.seq vs.toArray}/\IntsAre vs ns/\ns.length<=n:=by
 have hsh:WShape.hasAll [] args [.list .int]=true:=(pre_splitW hpre).1
 have hc:l.pre.holds [] {args:=args}=true:=(pre_splitW hpre).2
 obtain⟨d,r,rfl,h1,h2⟩:=hasAllW_cons hsh
 obtain rfl:=hasAllW_nil h2
 obtain⟨xs,rfl,h3⟩:=hasW_list h1
 obtain⟨ns,rfl⟩:=items_int h3
 have hlen:ns.length<=n:=by
  unfold OpenLaw.pre at hc
  have h4:(WTm.not (.lt (.lit (.int (n:Int))) (.len (.arg 0)))).holds [] {args:=[.list (ns.map .int)]}=true:=by
   have h4:=(holds_andW hc).1
   rw[hn] at h4
   exact h4
  have h5:=condW_of h4 (w_not (w_lt w_lit (w_len_list (w_arg rfl))))
  rw[List.length_map] at h5
  refine Nat.le_of_not_lt fun q=>?_
  have q':(n:Int)<((ns.length:Nat):Int):=by omega
  first
   |(rw[decide_eq_true q'] at h5;exact absurd h5 (by decide))
   |(simp at h5;omega)
 cases hwl with
 |cons w1 w2=>
  cases w2
  cases w1 with
  |list ho hall=>exact⟨_,_,ns,rfl,rfl,ho,Pp ns _ hall,hlen⟩
def Ir (l:OpenLaw)(args:List WData):l.row.toRowW.claim.post args (.bool true) args=true:=
 postW_of (r:=l.row.toRowW) (X:=(true==true))
  (show WShape.has [] (.bool true) .bool=true by first|rfl|decide|simp[WShape.has,WShape.arms,WShape.armsAll])
  (show(WTm.eq .res (.lit (.bool true))).value [] {args:=args,res:=some (.bool true),after:=args}=some (.bool (true==true)) from w_eq_bool (w_res rfl) w_lit) rfl
def attach_call {l:OpenLaw}{n:Nat}{q:Program}{loose:List Str}{XP:(Str->Option Value)->Heap->Prop}{YP:World->Heap->Prop}{d:DefRec}(hn:l.most=some n)(hdf:d.params.defaults=[])
  (call:∀(w:World) (s₀ s₁:Shared) (mg mb:Str->Option Value) (fa:Addr) (o:Obj) (pm cd doc:Value) (a:Addr) (vs:List Value) (ns:List Int),
   Ground q loose [] XP w s₀ mg mb s₁.heap->YP w s₁.heap ->
   s₁.heap.get? fa=some o->o.data=.func (docDef d.name d.params d.body d.scope pm cd doc)->s₁.heap.CodeRec cd d.name->mg d.name=some (.ref fa) ->
   s₁.heap.get? a=some {cls:=.type "list", data:=.seq vs.toArray}->IntsAre vs ns->ns.length<=n->s₁.gens=#[] ->
   codeAny (model l.prog w) callerA (.call (.ref fa) ⟨[.ref a],[]⟩) (fun r s'=>r=.ok (.ret (.bool true))/\OldK s₁.heap s'.heap/\s'.os=s₁.os/\AllBare s'.gens) s₁):
  WalkO q loose XP YP l.row.toRowW d [] (fun f vs=>PySem.call f vs):=by
 intro w s₀ s₁ mg mb G Y fa o pm cd doc dV kV ho hd hcd hD hmg hg args vals as hpre hlay hrd hwl hlo
 obtain rfl:dV=.none:=Dflts.none hD hdf
 obtain rfl:kV=.none:=Dflts.noKw hD
 obtain⟨a,vs,ns,rfl,rfl,hobj,hints,hlen⟩:=Iq hn hpre hwl
 refine enter_call (codeAny_mono (call w s₀ s₁ mg mb fa o pm cd doc a vs ns G Y ho (fd_plain hd) hcd hmg hobj hints hlen hg) fun r s' hq=>?_)
 obtain⟨rfl,h2,h3,h4⟩:=hq
 exact⟨.inl ⟨.bool true,.bool true,[],rfl,fun _=>rfl,.bool true,Ir l _,fun _=>⟨List.Pairwise.nil,fun _ hm=>(nomatch hm)⟩⟩,h2,h3,h4⟩
end Att
namespace L2
open PySem PySem.Spec PyProof.Rows
theorem T9:∀{vs:List Value}{ns:List Int},IntsAre vs ns->Vals (ns.map V.int) vs
 |_,_,.nil=>.nil
 |_,_,.cons n t h=>.cons ⟨t,rfl⟩ (T9 h)
def Zhm (H:Hp):Prop:=∀b,H b=none\/∃o xs,H b=some (.frz o (.lst xs))
def Zas {P:Program}{w:World}{K:PySem.W.Frag}{mg mb:Str->Option Value}{CX:Zdf}{k:Nat}{fa a:Addr}{fd:FuncData}{x:Str}{sp:Sp}{s₁:Shared}{vs:List Value}{ns:List Int}(KX:K.In s₁.heap)(hns:s₁.heap.Ns mainGlobals mg)(hb:s₁.heap.Ns builtinsNs mb) (hbb:∀x:Str,x ≠ "__name__"->mb x=bootBuiltins x) (hlim:s₁.heap.NoLimit) (hg:s₁.gens=#[])
  (ha:s₁.heap.get? a=some {cls:=.type "list", data:=.seq vs.toArray}) (hi:IntsAre vs ns) (hl:ns.length<=sizeLine) (hr:Room k callerA)
  (F:∀base:Heap,K.In base->base.Ns mainGlobals mg->FnOk P w K mg base CX k fa fd [x] sp) (hbind:∀(s:Shared) (u:Value),BindsTo s fd ⟨[u],[]⟩ [(x,u)])
  (hsp:∀H:Hp,Zhm H->SqL K H a (ns.map V.int)->sp [.ref a] H (fun v _=>v=.bl true) fun _ _ _=>False)
  (hCX:∀H e s',CX [] H s₁ (fun _ _ _=>False) e s'->False):
  codeAny (model P w) callerA (.call (.ref fa) ⟨[.ref a],[]⟩) (fun r s'=>r=.ok (.ret (.bool true))/\OldK s₁.heap s'.heap/\s'.os=s₁.os/\AllBare s'.gens) s₁:=by
 have rv:=T9 hi
 have lenV:=hi.length
 have core:∀H:Hp,Zhm H->SqL K H a (ns.map V.int)->HOk P w H s₁.heap->(∀b,H b≠none->b=a)->(H a≠none->K.lookup a=none) ->
   codeAny (model P w) callerA (.call (.ref fa) ⟨[.ref a],[]⟩) (fun r s'=>r=.ok (.ret (.bool true))/\OldK s₁.heap s'.heap/\s'.os=s₁.os/\AllBare s'.gens) s₁:=by
  intro H hO hS hok hA hK
  have base_of:∀{b:Addr}{o:Obj},s₁.heap.get? b=some o->H b=none->(L9 s₁.heap H).get? b=some o:=fun e n=>O6 e n
  have noA:∀{b:Addr}{o:Obj}{es:Array DictEntry}{ep:Nat},s₁.heap.get? b=some o->o.data=.dict es ep->H b=none:=fun {b o es ep} e d=>by
   cases q:H b with
   |none=>rfl
   |some u=>
    have e':b=a:=hA b (by rw[q];simp)
    subst e'
    rw[ha] at e;cases e
    have d':Data.seq vs.toArray _=Data.dict es ep:=d
    cases d'
  have nsK:∀{b:Addr}{m:Str->Option Value},s₁.heap.Ns b m->(L9 s₁.heap H).Ns b m:=fun {b m} ⟨o,es,ep,e,d,r⟩=>⟨o,es,ep,base_of e (noA e d),d,r⟩
  have hKb:K.In (L9 s₁.heap H):=fun b o e=>base_of (KX b o e) (by
   cases q:H b with
   |none=>rfl
   |some u=>
    have e':b=a:=hA b (by rw[q];simp)
    subst e'
    rw[hK (by rw[q];simp)] at e;cases e)
  have hM:Mod K mg (L9 s₁.heap H):=⟨hKb,nsK hns,⟨mb,nsK hb,hbb⟩,let ⟨mc,h1,h2⟩:=hlim;⟨mc,nsK h1,h2⟩⟩
  have e0:Env0 P w K mg (L9 s₁.heap H) callerA [] s₁ H:=⟨rfl,hM,fun b o e=>Zdk e,Nat.le_of_eq (Hw _ _),trivial,fun b hb=>absurd (show b∈([]:List Addr) from hb) (by simp),hok,.of_eq hg⟩
  refine codeAny_mono ((F _ hKb (nsK hns)).run callerA [] s₁ H ⟨[.ref a],[]⟩ [.ref a] [.ref a] _ _ hr e0 (hbind s₁ (.ref a)) (.cons rfl .nil) (hsp H hO hS)) fun r s' h=>?_
  cases r with
  |error e=>exact(hCX H e s' h).elim
  |ok fl=>
   cases fl with
   |next=>exact False.elim h
   |brk=>exact False.elim h
   |cont=>exact False.elim h
   |ret u=>
    obtain⟨v,H',os,bare,un,hok',r',q⟩:=h
    have q':v=.bl true:=q
    subst q'
    obtain rfl:u=Value.bool true:=r'
    refine⟨rfl,OldK.of_keep fun b o e=>?_,os,bare⟩
    cases q:H b with
    |none=>exact un.keep b o e q (by intro z;exact absurd (show b∈([]:List Addr) from z) (by simp)) (by simp)
    |some u=>
     rcases hO b with z|⟨ob,xs,z⟩
     ·rw[q] at z;cases z
     ·have z2:=un.frzs b ob _ z
      obtain⟨e1,_⟩:=hok b _ z
      obtain⟨e2,_⟩:=hok' b _ z2
      rw[e] at e1;cases e1
      exact e2
 cases hk:K.lookup a with
 |some o=>
  have e:=KX a o hk
  rw[ha] at e
  cases e
  refine core (fun _=>none) (fun _=>.inl rfl) (.inr ⟨_,vs.toArray,_,hk,rfl,rfl,rfl,by rw[List.size_toArray,lenV];exact hl,by simpa using rv⟩) (fun b u z=>by have z':(none:Option HO)=some u:=z;cases z') (fun b z=>absurd rfl z) fun z=>absurd rfl z
 |none=>
  refine core (fun b=>if b=a then some (.frz {cls:=.type "list", data:=.seq vs.toArray} (.lst (ns.map V.int))) else none) (fun b=>?_) (.inl (.inr ⟨{cls:=.type "list", data:=.seq vs.toArray},if_pos rfl⟩)) (fun b u z=>?_) (fun b z=>?_) fun _=>hk
  ·by_cases hb:b=a
   ·exact .inr ⟨_,_,if_pos hb⟩
   ·exact .inl (if_neg hb)
  ·by_cases hb:b=a
   ·have z':=(if_pos hb).symm.trans z
    cases z'
    subst hb
    exact⟨ha,by rw[List.length_map];exact hl,vs,_,rv,ha⟩
   ·have z':=(if_neg hb).symm.trans z
    cases z'
  ·by_cases hb:b=a
   ·exact hb
   ·exact absurd (if_neg hb) z
def Zd8 {l:PySem.W.OpenLaw}{n k:Nat}{q:Program}{loose:List Str}{XP:(Str->Option Value)->Heap->Prop}{YP:World->Heap->Prop}{d:DefRec}{K:Params->PySem.W.Frag}{CX:World->Zdf}{sp:World->Sp}{x:Str}(hn:l.most=some n)(hn2:n<=sizeLine)(hdf:d.params.defaults=[])(hr:Room k callerA)(hY:∀(w:World) (h:Heap),YP w h->(K w.params).In h)(F:∀(w:World) (mg:Str->Option Value) (fa:Addr) (h:Heap),(K w.params).In h->h.Ns mainGlobals mg->mg d.name=some (.ref fa) ->
   ∃fd:FuncData,(∀(s:Shared) (u:Value),BindsTo s fd ⟨[u],[]⟩ [(x,u)]) /\
    ∀base:Heap,(K w.params).In base->base.Ns mainGlobals mg->FnOk l.prog w (K w.params) mg base (CX w) k fa fd [x] (sp w))(hsp:∀(w:World) (H:Hp) (a:Addr) (ns:List Int),ns.length<=n->Zhm H->SqL (K w.params) H a (ns.map V.int)->sp w [.ref a] H (fun v _=>v=.bl true) fun _ _ _=>False)(hCX:∀(w:World) (H:Hp) (s:Shared) (e:Value) (s':Shared),CX w [] H s (fun _ _ _=>False) e s'->False):
  PySem.W.WalkO q loose XP YP l.row.toRowW d [] (fun f vs=>PySem.call f vs):=by
 refine Att.attach_call hn hdf fun w s₀ s₁ mg mb fa o pm cd doc a vs ns G Y ho hd hcd hmg hobj hints hlen hg=>?_
 have KX:=hY w _ Y
 obtain⟨fd,hb,hF⟩:=F w mg fa _ KX G.T.g hmg
 exact Zas KX G.T.g G.T.b G.T.builtins G.T.nolimit hg hobj hints (Nat.le_trans hlen hn2) hr hF hb (fun H hO hS=>hsp w H a ns hlen hO hS) fun H e s'=>hCX w H s₁ e s'
def Vb (s:Stmt):Arguments:=match s with
 |.FunctionDef _ a _ _ _ _ _ _ _ _=>a
 |_=>{posonlyargs:=[],args:=[],vararg:=none,kwonlyargs:=[],kw_defaults:=[],kwarg:=none,defaults:=[]}
def Xj (s:Stmt):List Stmt:=match s with
 |.FunctionDef _ _ b _ _ _ _ _ _ _=>b
 |_=>[]
def Zj (s:Stmt):Scope:=match s with
 |.FunctionDef _ _ _ _ _ _ sc _ _ _=>sc
 |_=>{kind:=.function,names:=[],isGenerator:=false,isCoroutine:=false}
abbrev Y2:Zdf:=fun _ _ _ _ _ _=>False
abbrev E0:XK:=fun _ _ _=>False
def Kx {X:Cx}:W2 Y2 X E0:=fun _ _ _ _ _ _ _ h=>h.elim
structure Fun (K:PySem.W.Frag) (x qual:Str) (st:Stmt) (f:Addr) (fd:FuncData):Prop where
 ex:∃(oc:Value) (od:Option Addr) (kV doc pm:Value) (an:Option Addr) (cdv ct:Value) (osl:Array (Option Value)),
  fd=PySem.W.fnOf x qual (Vb st) (Xj st) (Zj st) .none kV doc pm an cdv ct/\K.lookup f=some ⟨oc,od,.func fd,osl⟩/\PySem.W.codeIn K cdv qual=true
 kp:PySem.W.keepIn K (.ref f)=true
section
variable {P:Program}{w:World}{K:PySem.W.Frag}{mg:Str->Option Value}{base:Heap}
def Fun.ok {x qual:Str}{st:Stmt}{f:Addr}{fd:FuncData}{N ps:List Str}{k:Nat}{sp:Sp}(F:Fun K x qual st f fd)(S:FnScope N ps (Zj st))(len:∀vs H Q E,sp vs H Q E->vs.length=ps.length)(hbody:∀(cdv:Value) (A:Around) (outer:List Env) (s:Shared) (H:Hp) (vs:List V) (Q:VK) (E:XK),Room k (A.deeper (envOfC qual (Zj st) s.heap.objs.size f cdv))->sp vs H Q E ->
   ∃t,PSs (Kh Y2 P w K mg base N qual (Zj st) f cdv A outer s H E).nox (Xj st) t/\t {nx:=fun _ H'=>Q .non H',rt:=Q} (X6 N vs) H):FnOk P w K mg base Y2 (k+1) f fd ps sp:=by
 obtain⟨oc,od,kV,doc,pm,an,cdv,ct,osl,rfl,lk,hcd⟩:=F.ex
 refine Zjv lk hcd S len fun A outer s H vs Q E hr hsp=>?_
 obtain⟨t,h,q⟩:=hbody cdv A outer s H vs Q E hr hsp
 exact⟨t,h.nox,q⟩
def Fun.binds {x qual:Str}{st:Stmt}{f:Addr}{fd:FuncData}{ps:List Str}(F:Fun K x qual st f fd)(h:∀(kV doc pm:Value) (an:Option Addr) (cdv ct:Value) (us:List Value),us.length=ps.length->bindArgs (PySem.W.fnOf x qual (Vb st) (Xj st) (Zj st) .none kV doc pm an cdv ct) ⟨us,[]⟩=pure (ps.zip us)):Binds K fd ps []:=by
 obtain⟨oc,od,kV,doc,pm,an,cdv,ct,osl,rfl,lk,hcd⟩:=F.ex
 exact .all (h kV doc pm an cdv ct)
def Zat {x qual:Str}{st:Stmt}{f:Addr}{oc:Value}{od an:Option Addr}{osl:Array (Option Value)}{kV doc pm cdv ct:Value}(l:K.lookup f=some ⟨oc,od,.func (PySem.W.fnOf x qual (Vb st) (Xj st) (Zj st) .none kV doc pm an cdv ct),osl⟩)(c:PySem.W.codeIn K cdv qual=true)(k:PySem.W.keepIn K (.ref f)=true):Fun K x qual st f (PySem.W.fnOf x qual (Vb st) (Xj st) (Zj st) .none kV doc pm an cdv ct):=⟨⟨oc,od,kV,doc,pm,an,cdv,ct,osl,rfl,l,c⟩,k⟩
end
def Same (H H':Hp):Prop:=∀b o,H b=some o->H' b=some o
def Same.refl (H:Hp):Same H H:=fun _ _ h=>h
def Same.trans {H H1 H2:Hp}(a:Same H H1)(b:Same H1 H2):Same H H2:=fun c o h=>b c o (a c o h)
def Same.free {H H':Hp}(e:Same H H'){l:Addr}(h:H' l=Option.none):H l=Option.none:=by
 cases q:H l with
 |none=>rfl
 |some o=>
  rw[e l o q] at h
  cases h
def Same.seq {K:PySem.W.Frag}{H H':Hp}{a:Addr}{xs:List V}(e:Same H H')(h:SqL K H a xs):SqL K H' a xs:=by
 rcases h with(h|⟨o,h⟩)|h
 ·exact .inl (.inl (e _ _ h))
 ·exact .inl (.inr ⟨o,e _ _ h⟩)
 ·exact .inr h
end L2
namespace DL
open PySem PySem.Spec PyProof.Rows L2
inductive D where
 |non|bl (b:Bool)|int (i:Int)|str (x:Str)|tup (ds:List D)|lst (ds:List D)
structure XV where
 cls:Str
 ns:List Str
 ds:List D
inductive M (α:Type) where
 |ok (a:α)|ex (x:XV)|bad
def M.bind {α β:Type}(r:M α)(k:α->M β):M β:=match r with
 |.ok a=>k a
 |.ex x=>.ex x
 |.bad=>.bad
@[simp] theorem M.bind_ok {α β:Type}(a:α)(k:α->M β):(M.ok a).bind k=k a:=rfl
@[simp] theorem M.bind_ex {α β:Type}(x:XV)(k:α->M β):(M.ex x:M α).bind k=.ex x:=rfl
@[simp] theorem M.bind_bad {α β:Type}(k:α->M β):(M.bad:M α).bind k=.bad:=rfl
inductive S where
 |im (d:D)|ow (ds:List D)|od (kvs:List (List Yo×D))|dk (kvs:List (Yo×D))|xc (x:XV)|fn (x:Str)|ob (a:Addr) (c:Str) (r:List (Str×D))|fl (a:Addr) (hall:D) (sqs:List (List Yo×D))
def S.own:S->Bool
 |.im _=>false
 |.xc _=>false
 |.fn _=>false
 |.ob _ _ _=>false
 |.fl _ _ _=>false
 |_=>true
abbrev Zi:=List (Option S)
section
variable (K:PySem.W.Frag) (H:Hp)
mutual
def Rep:D->V->Prop
 |.non,v=>v=.non
 |.bl b,v=>v=.bl b
 |.int i,v=>v=.int i
 |.str x,v=>v=.str x
 |.tup ds,v=>∃a xs,v=.ref a/\H a=some (.tup xs)/\Reps ds xs
 |.lst ds,v=>∃a xs,v=.ref a/\SqL K H a xs/\Reps ds xs
def Reps:List D->List V->Prop
 |[],xs=>xs=[]
 |d::ds,xs=>∃x r,xs=x::r/\Rep d x/\Reps ds r
end
end
def RepKV (K:PySem.W.Frag)(H:Hp){κ:Type}:List (κ×D)->List (κ×V)->Prop:=Paired fun p q=>p.1=q.1/\Rep K H p.2 q.2
def S.at (K:PySem.W.Frag)(Hf H:Hp)(p:Addr):S->Prop
 |.im _=>False
 |.xc _=>False
 |.fn _=>False
 |.ob _ _ _=>False
 |.fl _ _ _=>False
 |.ow ds=>∃xs,H p=some (.lst xs)/\Reps K Hf ds xs
 |.od kvs=>∃ys,H p=some (.dT ys)/\RepKV K Hf kvs ys
 |.dk kvs=>∃ys,H p=some (.dK ys)/\RepKV K Hf kvs ys
def _root_.L2.Same.seqT {K:PySem.W.Frag}{H H':Hp}{a:Addr}{xs:List V}(e:Same H H')(h:SqT K H a xs):SqT K H' a xs:=by
 rcases h with(h|⟨o,h⟩)|h
 ·exact .inl (.inl (e _ _ h))
 ·exact .inl (.inr ⟨o,e _ _ h⟩)
 ·exact .inr h
section
variable {K:PySem.W.Frag}{H H':Hp}
mutual
theorem Rep.mono (e:Same H H'):∀{d:D}{v:V},Rep K H d v->Rep K H' d v
 |.non,_,h=>by unfold Rep at h ⊢;exact h
 |.bl _,_,h=>by unfold Rep at h ⊢;exact h
 |.int _,_,h=>by unfold Rep at h ⊢;exact h
 |.str _,_,h=>by unfold Rep at h ⊢;exact h
 |.tup ds,_,h=>by
  unfold Rep at h ⊢
  obtain⟨a,xs,e1,e2,e3⟩:=h
  exact⟨a,xs,e1,e _ _ e2,Reps.mono e e3⟩
 |.lst ds,_,h=>by
  unfold Rep at h ⊢
  obtain⟨a,xs,e1,e2,e3⟩:=h
  exact⟨a,xs,e1,e.seq e2,Reps.mono e e3⟩
theorem Reps.mono (e:Same H H'):∀{ds:List D}{xs:List V},Reps K H ds xs->Reps K H' ds xs
 |[],_,h=>by unfold Reps at h ⊢;exact h
 |d::ds,_,h=>by
  unfold Reps at h ⊢
  obtain⟨x,r,e1,e2,e3⟩:=h
  exact⟨x,r,e1,Rep.mono e e2,Reps.mono e e3⟩
end
def rep_non {v:V}:Rep K H .non v↔v=.non:=by unfold Rep;exact Iff.rfl
def rep_bl {b:Bool}{v:V}:Rep K H (.bl b) v↔v=.bl b:=by unfold Rep;exact Iff.rfl
def rep_int {i:Int}{v:V}:Rep K H (.int i) v↔v=.int i:=by unfold Rep;exact Iff.rfl
def rep_str {x:Str}{v:V}:Rep K H (.str x) v↔v=.str x:=by unfold Rep;exact Iff.rfl
def rep_tup {ds:List D}{v:V}:Rep K H (.tup ds) v↔∃a xs,v=.ref a/\H a=some (.tup xs)/\Reps K H ds xs:=by rw[Rep]
def Qm {ds:List D}{v:V}(h:Rep K H (.tup ds) v):∃a xs,v=.ref a/\SqT K H a xs/\Reps K H ds xs:=by
 obtain⟨a,xs,e1,e2,e3⟩:=rep_tup.mp h
 exact⟨a,xs,e1,SqT.of e2,e3⟩
def rep_lst {ds:List D}{v:V}:Rep K H (.lst ds) v↔∃a xs,v=.ref a/\SqL K H a xs/\Reps K H ds xs:=by rw[Rep]
def reps_nil {xs:List V}:Reps K H [] xs↔xs=[]:=by rw[Reps]
def reps_cons {d:D}{ds:List D}{xs:List V}:Reps K H (d::ds) xs↔∃x r,xs=x::r/\Rep K H d x/\Reps K H ds r:=by rw[Reps]
def Reps.nil:Reps K H [] []:=reps_nil.mpr rfl
def Reps.cons {d:D}{ds:List D}{x:V}{xs:List V}(h:Rep K H d x)(t:Reps K H ds xs):Reps K H (d::ds) (x::xs):=reps_cons.mpr ⟨x,xs,rfl,h,t⟩
theorem Reps.length:∀{ds:List D}{xs:List V},Reps K H ds xs->ds.length=xs.length
 |[],_,h=>by rw[reps_nil.mp h];rfl
 |d::ds,_,h=>by
  obtain⟨x,r,rfl,_,t⟩:=reps_cons.mp h
  rw[List.length_cons,List.length_cons,Reps.length t]
theorem Reps.get:∀{ds:List D}{xs:List V}{i:Nat}{d:D},Reps K H ds xs->ds[i]?=some d->∃x,xs[i]?=some x/\Rep K H d x
 |[],_,_,_,_,e=>by simp at e
 |_::ds,_,0,_,h,e=>by
  obtain⟨x,r,rfl,q,t⟩:=reps_cons.mp h
  simp at e;subst e;exact⟨x,rfl,q⟩
 |_::ds,_,i+1,_,h,e=>by
  obtain⟨x,r,rfl,q,t⟩:=reps_cons.mp h
  obtain⟨y,e1,e2⟩:=Reps.get (i:=i) t (by simpa using e)
  exact⟨y,by simpa using e1,e2⟩
theorem Reps.append:∀{ds es:List D}{xs ys:List V},Reps K H ds xs->Reps K H es ys->Reps K H (ds++es) (xs++ys)
 |[],_,_,_,h,t=>by rw[reps_nil.mp h];exact t
 |_::ds,_,_,_,h,t=>by
  obtain⟨x,r,rfl,q,u⟩:=reps_cons.mp h
  exact .cons q (Reps.append u t)
theorem Reps.take:∀{ds:List D}{xs:List V} (n:Nat),Reps K H ds xs->Reps K H (ds.take n) (xs.take n)
 |_,_,0,_=>by simpa using Reps.nil
 |[],_,n+1,h=>by rw[reps_nil.mp h];simpa using Reps.nil
 |_::ds,_,n+1,h=>by
  obtain⟨x,r,rfl,q,u⟩:=reps_cons.mp h
  exact .cons q (Reps.take n u)
theorem Reps.drop:∀{ds:List D}{xs:List V} (n:Nat),Reps K H ds xs->Reps K H (ds.drop n) (xs.drop n)
 |_,_,0,h=>by simpa using h
 |[],_,n+1,h=>by rw[reps_nil.mp h];simpa using Reps.nil
 |_::ds,_,n+1,h=>by
  obtain⟨x,r,rfl,q,u⟩:=reps_cons.mp h
  exact Reps.drop n u
def Reps.none_of {ds:List D}{xs:List V}{i:Nat}(h:Reps K H ds xs)(e:ds[i]?=none):xs[i]?=none:=by
 have:=h.length
 rw[List.getElem?_eq_none_iff] at e ⊢
 lia
end
theorem RepKV.mono {K:PySem.W.Frag}{H H':Hp}(e:Same H H'){κ:Type}{a:List (κ×D)}{b:List (κ×V)}(r:RepKV K H a b):RepKV K H' a b:=Paired.mapP r fun _ _ q=>⟨q.1,q.2.mono e⟩
def Et {K:PySem.W.Frag}{Hf H:Hp}{p:Addr}{s:S}(h:S.at K Hf H p s):∃o,H p=some o:=by
 cases s with
 |im d=>exact h.elim
 |xc x=>exact h.elim
 |fn x=>exact h.elim
 |ob a c r=>exact h.elim
 |fl a g q=>exact h.elim
 |ow ds=>obtain⟨xs,e,_⟩:=h;exact⟨_,e⟩
 |od kvs=>obtain⟨ys,e,_⟩:=h;exact⟨_,e⟩
 |dk kvs=>obtain⟨ys,e,_⟩:=h;exact⟨_,e⟩
def Ws {K:PySem.W.Frag}{Hf Hf' H H':Hp}{p:Addr}{s:S}(h:S.at K Hf H p s)(e:Same Hf Hf')(q:∀o,H p=some o->H' p=some o):S.at K Hf' H' p s:=by
 cases s with
 |im d=>exact h.elim
 |xc x=>exact h.elim
 |fn x=>exact h.elim
 |ob a c r=>exact h.elim
 |fl a g q=>exact h.elim
 |ow ds=>obtain⟨xs,e1,e2⟩:=h;exact⟨xs,q _ e1,e2.mono e⟩
 |od kvs=>obtain⟨ys,e1,e2⟩:=h;exact⟨ys,q _ e1,e2.mono e⟩
 |dk kvs=>obtain⟨ys,e1,e2⟩:=h;exact⟨ys,q _ e1,e2.mono e⟩
def XO (a:Addr)(C:Addr)(dx:Option Addr):HO:=.ext fun h=>∃oe vs,h.get? a=some oe/\oe.cls=.ref C/\oe.dict=dx/\oe.data=.fields vs
def XF (Hf:Hp)(ns:List Str)(xs:List V):Option Addr->Prop
 |none=>ns=[]/\xs=[]
 |some dx=>Hf dx=some (.xd (ns.zip xs))/\ns.length=xs.length
def XF.mono {H H':Hp}(e:Same H H'){ns:List Str}{xs:List V}:∀{dx:Option Addr},XF H ns xs dx->XF H' ns xs dx
 |none,h=>h
 |some _,h=>⟨e _ _ h.1,h.2⟩
def RepE (K:PySem.W.Frag)(Hf:Hp)(x:XV)(v:V):Prop:=
 ∃a C dx xs,v=.ref a/\Hf a=some (XO a C dx)/\PySem.W.nsIn K mainGlobals x.cls=some (some (.ref C))/\XF Hf x.ns xs dx/\Reps K Hf x.ds xs
theorem RepE.mono {K:PySem.W.Frag}{H H':Hp}(e:Same H H'){x:XV}{v:V}(h:RepE K H x v):RepE K H' x v:=by
 obtain⟨a,C,dx,xs,e1,e2,e3,e4,e5⟩:=h
 exact⟨a,C,dx,xs,e1,e _ _ e2,e3,e4.mono e,e5.mono e⟩
def RepO (K:PySem.W.Frag)(Hf:Hp)(a:Addr)(c:Str)(r:List (Str×D))(v:V):Prop:=∃C dx gs,v=.ref a/\PySem.W.nsIn K mainGlobals c=some (some (.ref C))/\Hf a=some (.ins C dx gs)/\RepKV K Hf r gs
theorem RepO.mono {K:PySem.W.Frag}{H H':Hp}(e:Same H H'){a:Addr}{c:Str}{r:List (Str×D)}{v:V}(h:RepO K H a c r v):RepO K H' a c r v:=by
 obtain⟨C,dx,gs,e1,e2,e3,e4⟩:=h
 exact⟨C,dx,gs,e1,e2,e _ _ e3,e4.mono e⟩
structure FlG (K:PySem.W.Frag) (Hf:Hp) (g:D) (d q:Addr) (gs:List (Str×V)):Prop where
 hall:∃v,gs.lookup ("hall":Str)=some v/\Rep K Hf g v
 sq:gs.lookup ("by_square":Str)=some (.ref d)
 kn:gs.lookup ("known_faces":Str)=some (.ref q)
 m1:gs.lookup ("people_at":Str)=none
 m2:gs.lookup ("faces_at":Str)=none
theorem FlG.mono {K:PySem.W.Frag}{H H':Hp}(e:Same H H'){g:D}{d q:Addr}{gs:List (Str×V)}(h:FlG K H g d q gs):FlG K H' g d q gs:=⟨let ⟨v,e1,e2⟩:=h.hall;⟨v,e1,e2.mono e⟩,h.sq,h.kn,h.m1,h.m2⟩
def RepFl (K:PySem.W.Frag)(Hf:Hp)(a:Addr)(g:D)(q:List (List Yo×D))(v:V):Prop:=∃C dx gs d k ys,v=.ref a/\PySem.W.nsIn K mainGlobals "Floor"=some (some (.ref C))/\Hf a=some (.ins C dx gs)/\FlG K Hf g d k gs/\Hf d=some (.dT ys)/\RepKV K Hf q ys
theorem RepFl.mono {K:PySem.W.Frag}{H H':Hp}(e:Same H H'){a:Addr}{g:D}{q:List (List Yo×D)}{v:V}(h:RepFl K H a g q v):RepFl K H' a g q v:=by
 obtain⟨C,dx,gs,d,k,ys,e1,e2,e3,e4,e5,e6⟩:=h
 exact⟨C,dx,gs,d,k,ys,e1,e2,e _ _ e3,e4.mono e,e _ _ e5,e6.mono e⟩
def RepS (K:PySem.W.Frag)(Hf:Hp):S->V->Prop
 |.im d,v=>Rep K Hf d v
 |.xc x,v=>RepE K Hf x v
 |.fn x,v=>∃a,v=.ref a/\PySem.W.nsIn K mainGlobals x=some (some (.ref a))
 |.ob a c r,v=>RepO K Hf a c r v
 |.fl a g q,v=>RepFl K Hf a g q v
 |_,_=>True
theorem RepS.mono {K:PySem.W.Frag}{H H':Hp}(e:Same H H'){t:S}{v:V}(h:RepS K H t v):RepS K H' t v:=by
 cases t with
 |im d=>exact Rep.mono e h
 |xc x=>exact RepE.mono e h
 |fn x=>exact h
 |ob a c r=>exact RepO.mono e h
 |fl a g q=>exact RepFl.mono e h
 |_=>trivial
def Lv (H:Hp)(a:Addr):Prop:=∃o,H a=some o/\∀xs,o≠.tup xs
def Lv.nn {H:Hp}{a:Addr}(h:Lv H a):H a≠none:=by
 obtain⟨o,e,_⟩:=h
 rw[e];simp
theorem Lv.lst {H:Hp}{a:Addr}{xs:List V}(e:H a=some (.lst xs)):Lv H a:=⟨_,e,fun _ q=>by cases q⟩
def _root_.L2.Same.lv {H H':Hp}(e:Same H H'){a:Addr}(h:Lv H a):Lv H' a:=let ⟨o,q,n⟩:=h;⟨o,e a o q,n⟩
def Zf3 {K:PySem.W.Frag}{Hf H:Hp}{p:Addr}{s:S}(h:S.at K Hf H p s):Lv H p:=by
 cases s with
 |im d=>exact h.elim
 |xc x=>exact h.elim
 |fn x=>exact h.elim
 |ob a c r=>exact h.elim
 |fl a g q=>exact h.elim
 |ow ds=>obtain⟨xs,e,_⟩:=h;exact⟨_,e,fun _ q=>by cases q⟩
 |od kvs=>obtain⟨xs,e,_⟩:=h;exact⟨_,e,fun _ q=>by cases q⟩
 |dk kvs=>obtain⟨xs,e,_⟩:=h;exact⟨_,e,fun _ q=>by cases q⟩
structure Gr (Hf H Hf' H':Hp):Prop where
 fz:Same Hf Hf'
 sub:Same Hf' H'
 all:Same H H'
 ban:∀a,Lv H a->Hf a=none->Hf' a=none
theorem Gr.refl {Hf H:Hp}(h:Same Hf H):Gr Hf H Hf H:=⟨Same.refl _,h,Same.refl _,fun _ _ e=>e⟩
theorem Gr.trans {Hf H Hf1 H1 Hf2 H2:Hp}(a:Gr Hf H Hf1 H1)(b:Gr Hf1 H1 Hf2 H2):Gr Hf H Hf2 H2:=
 ⟨a.fz.trans b.fz,b.sub,a.all.trans b.all,fun c h e=>b.ban c (a.all.lv h) (a.ban c h e)⟩
def Qs {H:Hp}{p:Addr}(h:H p=none)(o:HO):Same H (upd H p o):=fun b u q=>by rw[Zn (Z3 q h)];exact q
theorem _root_.L2.Same.upd {Hf H:Hp}(e:Same Hf H)(p:Addr)(o:HO):Same (L2.upd Hf p o) (L2.upd H p o):=fun b u q=>by
 by_cases hb:b=p
 ·subst hb;rw[Zu] at q ⊢;exact q
 ·rw[Zn hb] at q ⊢;exact e b u q
def Gr.alloc {Hf H:Hp}(e:Same Hf H){p:Addr}(h:H p=none)(o:HO):Gr Hf H (upd Hf p o) (upd H p o):=
 ⟨Qs (e.free h) o,Same.upd e p o,Qs h o,fun a ha ea=>by
  have:a≠p:=fun z=>ha.nn (z▸h)
  rw[Zn this];exact ea⟩
structure SR (K:PySem.W.Frag) (H0:Hp) (B:Addr->Prop) (Hf:Hp) (sd:Zi) (σ:L2.St) (H:Hp):Prop where
 sub:Same Hf H
 all:Same H0 H
 ban:∀a,B a->Hf a=none
 bt:∀a,B a->Lv H0 a
 len:sd.length=σ.length
 imS:∀(i:Nat) (t:S),sd[i]?=some (some t)->t.own=false->∃v,σ[i]?=some (some v)/\RepS K Hf t v
 ow:∀(i:Nat) (t:S),sd[i]?=some (some t)->t.own=true->∃p,σ[i]?=some (some (.ref p))/\H0 p=none/\Hf p=none/\S.at K Hf H p t
 sep:∀(i j:Nat) (t u:S) (p:Addr),i≠j->sd[i]?=some (some t)->t.own=true->sd[j]?=some (some u)->u.own=true->σ[i]?=some (some (.ref p))->σ[j]?=some (some (.ref p))->False
section
variable {K:PySem.W.Frag}{H0 Hf Hf' H H':Hp}{B:Addr->Prop}{sd:Zi}{σ:L2.St}
theorem SR.im (r:SR K H0 B Hf sd σ H):∀(i:Nat) (d:D),sd[i]?=some (some (.im d))->∃v,σ[i]?=some (some v)/\Rep K Hf d v:=fun i _ e=>r.imS i _ e rfl
def SR.gr (r:SR K H0 B Hf sd σ H)(g:Gr Hf H Hf' H'):SR K H0 B Hf' sd σ H' where
 sub:=g.sub
 all:=r.all.trans g.all
 ban:=fun a h=>g.ban a (r.all.lv (r.bt a h)) (r.ban a h)
 bt:=r.bt
 len:=r.len
 imS:=fun i d e z=>let ⟨v,e1,e2⟩:=r.imS i d e z;⟨v,e1,e2.mono g.fz⟩
 ow:=fun i t e ho=>by
  obtain⟨p,e1,e2,e3,e4⟩:=r.ow i t e ho
  obtain⟨o,eo⟩:=Et e4
  exact⟨p,e1,e2,g.ban p (Zf3 e4) e3,Ws e4 g.fz fun o h=>g.all _ _ h⟩
 sep:=r.sep
def SR.set_st (r:SR K H0 B Hf sd σ H)(i:Nat){d:S}{v:V}(hd:d.own=false)(h:RepS K Hf d v):SR K H0 B Hf (sd.set i (some d)) (σ.set i (some v)) H where
 sub:=r.sub
 all:=r.all
 ban:=r.ban
 bt:=r.bt
 len:=by rw[List.length_set,List.length_set];exact r.len
 imS:=fun j d' e z=>by
  by_cases hj:i=j
  ·subst hj
   have hi:i<sd.length:=by
    have:=(List.getElem?_eq_some_iff.mp e).1;simpa using this
   rw[List.getElem?_set_self hi] at e
   cases e
   exact⟨v,by rw[List.getElem?_set_self (by rw[<-r.len];exact hi)],h⟩
  ·rw[List.getElem?_set_ne hj] at e ⊢
   exact r.imS j d' e z
 ow:=fun j t e ho=>by
  by_cases hj:i=j
  ·subst hj
   have hi:i<sd.length:=by
    have:=(List.getElem?_eq_some_iff.mp e).1;simpa using this
   rw[List.getElem?_set_self hi] at e
   cases e
   rw[hd] at ho;cases ho
  ·rw[List.getElem?_set_ne hj] at e ⊢
   exact r.ow j t e ho
 sep:=fun j k t u p hjk e1 o1 e2 o2 e3 e4=>by
  have ne:∀{l:Nat}{fs:S},(sd.set i (some d))[l]?=some (some fs)->fs.own=true->i≠l:=fun {l fs} e o z=>by
   subst z
   have hi:i<sd.length:=by
    have:=(List.getElem?_eq_some_iff.mp e).1;simpa using this
   rw[List.getElem?_set_self hi] at e
   cases e
   rw[hd] at o;cases o
  have n1:=ne e1 o1
  have n2:=ne e2 o2
  rw[List.getElem?_set_ne n1] at e1 e3
  rw[List.getElem?_set_ne n2] at e2 e4
  exact r.sep j k t u p hjk e1 o1 e2 o2 e3 e4
def SR.set_im (r:SR K H0 B Hf sd σ H)(i:Nat){d:D}{v:V}(h:Rep K Hf d v):SR K H0 B Hf (sd.set i (some (.im d))) (σ.set i (some v)) H:=r.set_st (d:=.im d) i rfl h
def SR.change (r:SR K H0 B Hf sd σ H){i:Nat}{p:Addr}{o:HO}{t u:S}(ht:sd[i]?=some (some t))(ot:t.own=true)(hi:σ[i]?=some (some (.ref p)))(ou:u.own=true)(h:S.at K Hf (upd H p o) p u):SR K H0 B Hf (sd.set i (some u)) σ (upd H p o):=by
 obtain⟨p',z1,z2,z3,z4⟩:=r.ow i t ht ot
 rw[hi] at z1
 cases z1
 have hl:i<sd.length:=(List.getElem?_eq_some_iff.mp ht).1
 have back:∀{j:Nat}{w:S},i≠j->(sd.set i (some u))[j]?=some (some w)->sd[j]?=some (some w):=fun {j w} n e=>by rwa[List.getElem?_set_ne n] at e
 refine⟨fun b v q=>?_,fun b v q=>?_,r.ban,r.bt,by rw[List.length_set];exact r.len,fun j d e z=>?_,fun j w e ow=>?_,fun j k w x q hjk e1 o1 e2 o2 e3 e4=>?_⟩
 ·rw[Zn (Z3 q z3)];exact r.sub b v q
 ·rw[Zn (Z3 q z2)];exact r.all b v q
 ·by_cases n:i=j
  ·subst n
   rw[List.getElem?_set_self hl] at e
   cases e
   rw[ou] at z;cases z
  ·exact r.imS j d (back n e) z
 ·by_cases n:i=j
  ·subst n
   rw[List.getElem?_set_self hl] at e
   cases e
   exact⟨p,hi,z2,z3,h⟩
  ·obtain⟨q,e1,e2,e3,e4⟩:=r.ow j w (back n e) ow
   refine⟨q,e1,e2,e3,Ws e4 (Same.refl _) fun o' h'=>?_⟩
   have:q≠p:=fun z=>by
    subst z
    exact r.sep i j t w q n ht ot (back n e) ow hi e1
   rw[Zn this];exact h'
 ·have get:∀{l:Nat}{w:S},(sd.set i (some u))[l]?=some (some w)->w.own=true->∃w',sd[l]?=some (some w')/\w'.own=true:=fun {l w} e ow=>by
   by_cases n:i=l
   ·subst n;exact⟨t,ht,ot⟩
   ·exact⟨w,back n e,ow⟩
  obtain⟨w',a1,a2⟩:=get e1 o1
  obtain⟨x',b1,b2⟩:=get e2 o2
  exact r.sep j k w' x' q hjk a1 a2 b1 b2 e3 e4
def SR.freeze (r:SR K H0 B Hf sd σ H){i:Nat}{ds:List D}(ht:sd[i]?=some (some (.ow ds))):∃Hf',Same Hf Hf'/\SR K H0 B Hf' (sd.set i (some (.im (.lst ds)))) σ H:=by
 obtain⟨p,z1,z2,z3,xs,z4,z5⟩:=r.ow i _ ht rfl
 have hl:i<sd.length:=(List.getElem?_eq_some_iff.mp ht).1
 have back:∀{j:Nat}{w:S},i≠j->(sd.set i (some (S.im (.lst ds))))[j]?=some (some w)->sd[j]?=some (some w):=fun {j w} n e=>by rwa[List.getElem?_set_ne n] at e
 have sm:=Qs z3 (.lst xs)
 refine⟨upd Hf p (.lst xs),sm,fun b v q=>?_,r.all,fun a h=>?_,r.bt,by rw[List.length_set];exact r.len,fun j d e z=>?_,fun j w e ow=>?_,fun j k w x q hjk e1 o1 e2 o2 e3 e4=>?_⟩
 ·by_cases hb:b=p
  ·subst hb;rw[Zu] at q;rw[z4];exact q
  ·rw[Zn hb] at q;exact r.sub b v q
 ·have:a≠p:=fun z=>(r.bt a h).nn (z▸z2)
  rw[Zn this];exact r.ban a h
 ·by_cases n:i=j
  ·subst n
   rw[List.getElem?_set_self hl] at e
   cases e
   exact⟨_,z1,(rep_lst.mpr ⟨p,xs,rfl,SqL.of Zu,z5.mono sm⟩:Rep K _ (.lst ds) _)⟩
  ·obtain⟨v,e1,e2⟩:=r.imS j d (back n e) z
   exact⟨v,e1,e2.mono sm⟩
 ·by_cases n:i=j
  ·subst n
   rw[List.getElem?_set_self hl] at e
   cases e
   cases ow
  ·obtain⟨q,e1,e2,e3,e4⟩:=r.ow j w (back n e) ow
   refine⟨q,e1,e2,?_,Ws e4 sm fun o' h'=>h'⟩
   have:q≠p:=fun z=>by
    subst z
    exact r.sep i j _ w q n ht rfl (back n e) ow z1 e1
   rw[Zn this];exact e3
 ·have ne:∀{l:Nat}{w:S},(sd.set i (some (S.im (.lst ds))))[l]?=some (some w)->w.own=true->i≠l:=fun {l w} e o z=>by
   subst z
   rw[List.getElem?_set_self hl] at e
   cases e
   cases o
  exact r.sep j k w x q hjk (back (ne e1 o1) e1) o1 (back (ne e2 o2) e2) o2 e3 e4
end
def Zhn (K:PySem.W.Frag)(Hf _H:Hp)(x:XV)(c:Value)(dx:Option Addr):Prop:=
 ∃C xs,c=.ref C/\PySem.W.nsIn K mainGlobals x.cls=some (some (.ref C))/\XF Hf x.ns xs dx/\Reps K Hf x.ds xs
def Po (K:PySem.W.Frag)(E:XK){α β:Type}(R:Hp->Hp->α->β->Prop)(Hf H:Hp)(r:M α)(Q:β->Hp->Prop):Prop:=match r with
 |.ok a=>∀b Hf' H',Gr Hf H Hf' H'->R Hf' H' a b->Q b H'
 |.ex x=>∀c dx Hf' H',Gr Hf H Hf' H'->Zhn K Hf' H' x c dx->E c dx H'
 |.bad=>False
def rV (K:PySem.W.Frag)(Hf _H:Hp)(d:D)(v:V):Prop:=Rep K Hf d v
def rA (K:PySem.W.Frag)(Hf _H:Hp)(ds:List D)(vs:List V):Prop:=Reps K Hf ds vs
def rQ {α:Type}(_Hf _H:Hp)(a b:α):Prop:=a=b
section
variable {K:PySem.W.Frag}{E:XK}{α β γ δ:Type}{R:Hp->Hp->α->β->Prop}{T:Hp->Hp->γ->δ->Prop}{Hf H Hf1 H1:Hp}
def Po.weak {r:M α}{Q:β->Hp->Prop}(g:Gr Hf H Hf1 H1)(h:Po K E R Hf H r Q):Po K E R Hf1 H1 r Q:=by
 cases r with
 |ok a=>exact fun b Hf' H' g' q=>h b Hf' H' (g.trans g') q
 |ex x=>exact fun c dx Hf' H' g' q=>h c dx Hf' H' (g.trans g') q
 |bad=>exact h
theorem Po.bind {r:M α}{k:α->M γ}{Q:δ->Hp->Prop}{Q1:β->Hp->Prop}(h:Po K E T Hf H (r.bind k) Q)(s:∀a b Hf1 H1,r=.ok a->Gr Hf H Hf1 H1->R Hf1 H1 a b->Po K E T Hf1 H1 (k a) Q->Q1 b H1):Po K E R Hf H r Q1:=by
 cases r with
 |ok a=>exact fun b Hf' H' g q=>s a b Hf' H' rfl g q (Po.weak g h)
 |ex x=>exact h
 |bad=>exact h
def Po.ret {a:α}{b:β}{Q:β->Hp->Prop}(e:Same Hf H)(h:Po K E R Hf H (.ok a) Q)(q:R Hf H a b):Q b H:=h b Hf H (Gr.refl e) q
end
def Xo (X:Cx)(E:XK)(e:Expr)(f:Zi->M D):Prop:=
 ∃t:TE,PE X e t/\∀(H0:Hp) (B:Addr->Prop) (Hf:Hp) (sd:Zi) (σ:L2.St) (H:Hp) (Q:VK),SR X.K H0 B Hf sd σ H->Po X.K E (rV X.K) Hf H (f sd) Q->t σ H Q
def Bz (X:Cx)(E:XK)(es:List Expr)(f:Zi->M (List D)):Prop:=
 ∃t:TA,PA X es t/\∀(H0:Hp) (B:Addr->Prop) (Hf:Hp) (sd:Zi) (σ:L2.St) (H:Hp) (Q:List V->Hp->Prop),SR X.K H0 B Hf sd σ H->Po X.K E (rA X.K) Hf H (f sd) Q->t σ H Q
def B0 (X:Cx)(E:XK)(e:Expr)(f:Zi->M Bool):Prop:=
 ∃t:TT,PT X e t/\∀(H0:Hp) (B:Addr->Prop) (Hf:Hp) (sd:Zi) (σ:L2.St) (H:Hp) (Q:Bool->Hp->Prop),SR X.K H0 B Hf sd σ H->Po X.K E rQ Hf H (f sd) Q->t σ H Q
def PWd (X:Cx)(E:XK)(e:Expr)(f:Zi->M Bool):Prop:=
 ∃t:TT,PW X e t/\∀(H0:Hp) (B:Addr->Prop) (Hf:Hp) (sd:Zi) (σ:L2.St) (H:Hp) (Q:Bool->Hp->Prop),SR X.K H0 B Hf sd σ H->Po X.K E rQ Hf H (f sd) Q->t σ H Q
def Zla (X:Cx)(E:XK)(e:Option Expr)(f:Zi->M (Option Int)):Prop:=
 ∃t:TO,PO X e t/\∀(H0:Hp) (B:Addr->Prop) (Hf:Hp) (sd:Zi) (σ:L2.St) (H:Hp) (Q:Option Int->Hp->Prop),SR X.K H0 B Hf sd σ H->Po X.K E rQ Hf H (f sd) Q->t σ H Q
inductive O where
 |nx (sd:Zi)|rt (s:S)|bk (sd:Zi)|ct (sd:Zi)
structure Fin' (H0:Hp) (B:Addr->Prop) (Hf H:Hp):Prop where
 sub:Same Hf H
 all:Same H0 H
 ban:∀a,B a->Hf a=none
def RS (K:PySem.W.Frag)(H0 Hf H:Hp):S->V->Prop
 |.im d,v=>Rep K Hf d v
 |.xc x,v=>RepE K Hf x v
 |t,v=>∃p,v=.ref p/\H0 p=none/\Hf p=none/\S.at K Hf H p t
def PoS (K:PySem.W.Frag)(E:XK)(H0:Hp)(B:Addr->Prop)(Hf:Hp)(r:M O)(D:Ends):Prop:=match r with
 |.ok (.nx sd')=>∀σ' Hf' H',Same Hf Hf'->SR K H0 B Hf' sd' σ' H'->D.nx σ' H'
 |.ok (.bk sd')=>∀σ' Hf' H',Same Hf Hf'->SR K H0 B Hf' sd' σ' H'->D.bk σ' H'
 |.ok (.ct sd')=>∀σ' Hf' H',Same Hf Hf'->SR K H0 B Hf' sd' σ' H'->D.ct σ' H'
 |.ok (.rt s)=>∀v Hf' H',Same Hf Hf'->Fin' H0 B Hf' H'->RS K H0 Hf' H' s v->D.rt v H'
 |.ex x=>∀c dx Hf' H',Same Hf Hf'->Fin' H0 B Hf' H'->Zhn K Hf' H' x c dx->E c dx H'
 |.bad=>False
def SR.fin {K:PySem.W.Frag}{H0 Hf H:Hp}{B:Addr->Prop}{sd:Zi}{σ:L2.St}(r:SR K H0 B Hf sd σ H):Fin' H0 B Hf H:=⟨r.sub,r.all,r.ban⟩
def Tf (X:Cx)(E:XK)(st:Stmt)(f:Zi->M O):Prop:=
 ∃t:TS,PS X st t/\∀(H0:Hp) (B:Addr->Prop) (Hf:Hp) (sd:Zi) (σ:L2.St) (H:Hp) (D:Ends),SR X.K H0 B Hf sd σ H->PoS X.K E H0 B Hf (f sd) D->t D σ H
def Nl (X:Cx)(E:XK)(st:List Stmt)(f:Zi->M O):Prop:=
 ∃t:TS,PSs X st t/\∀(H0:Hp) (B:Addr->Prop) (Hf:Hp) (sd:Zi) (σ:L2.St) (H:Hp) (D:Ends),SR X.K H0 B Hf sd σ H->PoS X.K E H0 B Hf (f sd) D->t D σ H
def PoS.weak {K:PySem.W.Frag}{E:XK}{H0 Hf Hf1:Hp}{B:Addr->Prop}{r:M O}{D:Ends}(g:Same Hf Hf1)(h:PoS K E H0 B Hf r D):PoS K E H0 B Hf1 r D:=by
 cases r with
 |ok o=>
  cases o with
  |nx sd=>exact fun σ' Hf' H' e q=>h σ' Hf' H' (g.trans e) q
  |bk sd=>exact fun σ' Hf' H' e q=>h σ' Hf' H' (g.trans e) q
  |ct sd=>exact fun σ' Hf' H' e q=>h σ' Hf' H' (g.trans e) q
  |rt s=>exact fun v Hf' H' e q=>h v Hf' H' (g.trans e) q
 |ex x=>exact fun c dx Hf' H' e q=>h c dx Hf' H' (g.trans e) q
 |bad=>exact h
theorem PoS.bind {K:PySem.W.Frag}{E:XK}{H0 Hf H:Hp}{B:Addr->Prop}{sd:Zi}{σ:L2.St}{α β:Type}{R:Hp->Hp->α->β->Prop}{r:M α}{k:α->M O}{D:Ends}{Q1:β->Hp->Prop}(sr:SR K H0 B Hf sd σ H)(h:PoS K E H0 B Hf (r.bind k) D)(s:∀a b Hf1 H1,r=.ok a->Gr Hf H Hf1 H1->SR K H0 B Hf1 sd σ H1->R Hf1 H1 a b->PoS K E H0 B Hf1 (k a) D->Q1 b H1):Po K E R Hf H r Q1:=by
 cases r with
 |ok a=>exact fun b Hf' H' g q=>s a b Hf' H' rfl g (sr.gr g) q (PoS.weak g.fz h)
 |ex x=>exact fun c dx Hf' H' g q=>h c dx Hf' H' g.fz (sr.gr g).fin q
 |bad=>exact h
section
variable {X:Cx}{E:XK}{pos:Pos}{a b:Expr}
def Zd (i:Nat)(sd:Zi):M D:=match sd[i]? with
 |some (some (.im d))=>.ok d
 |_=>.bad
def Zc (i:Nat){x:Str}(hN:X.N[i]?=some x:=by rfl)(hv:Tg X.env.scope x:=by trivial) (hd:(x==("__debug__":Str))=false:=by decide)
  (hcd:(x==("__classdict__":Str))=false:=by decide):Xo X E (.Name x pos) (Zd i):=by
 refine⟨_,Qc hN hv hd hcd,fun H0 B Hf sd σ H Q sr h=>?_⟩
 unfold Zd at h
 split at h
 ·rename_i d e
  obtain⟨v,e1,e2⟩:=sr.im i d e
  exact⟨v,e1,Po.ret sr.sub h e2⟩
 ·exact h.elim
def eC (d:D)(_:Zi):M D:=.ok d
def Zf {i:Int}{j}:Xo X E (.Constant (.int i) j pos) (eC (.int i)):=⟨_,O8,fun _ _ _ _ _ _ _ sr h=>Po.ret sr.sub h (rep_int.mpr rfl)⟩
def Uy {i:Bool}{j}:Xo X E (.Constant (.bool i) j pos) (eC (.bl i)):=⟨_,Zje,fun _ _ _ _ _ _ _ sr h=>Po.ret sr.sub h (rep_bl.mpr rfl)⟩
def Q8 {j}:Xo X E (.Constant .none j pos) (eC .non):=⟨_,Zgs,fun _ _ _ _ _ _ _ sr h=>Po.ret sr.sub h (rep_non.mpr rfl)⟩
def Qj {x}{j}:Xo X E (.Constant (.str x) j pos) (eC (.str x)):=⟨_,Zgt,fun _ _ _ _ _ _ _ sr h=>Po.ret sr.sub h (rep_str.mpr rfl)⟩
def P6 (X:Cx)(E:XK)(f:Value->Value->Sem Value)(g:D->D->M D):Prop:=
 ∃r:R2,OpR X f r/\∀(Hf H:Hp) (x y:V) (dx dy:D) (Q:VK),Same Hf H->Rep X.K Hf dx x->Rep X.K Hf dy y->Po X.K E (rV X.K) Hf H (g dx dy) Q->r x y H Q
def Zl (g:D->D->M D)(fa fb:Zi->M D)(sd:Zi):M D:=(fa sd).bind fun x=>(fb sd).bind fun y=>g x y
def two {fa fb:Zi->M D}{g:D->D->M D}{ta tb:TE}{r:R2}{H0:Hp}{B:Addr->Prop}{Hf:Hp}{sd:Zi}{σ:L2.St}{H:Hp}{Q:VK}(ha:∀(H0:Hp) (B:Addr->Prop) (Hf:Hp) (sd:Zi) (σ:L2.St) (H:Hp) (Q:VK),SR X.K H0 B Hf sd σ H->Po X.K E (rV X.K) Hf H (fa sd) Q->ta σ H Q)(hb:∀(H0:Hp) (B:Addr->Prop) (Hf:Hp) (sd:Zi) (σ:L2.St) (H:Hp) (Q:VK),SR X.K H0 B Hf sd σ H->Po X.K E (rV X.K) Hf H (fb sd) Q->tb σ H Q)(hr:∀(Hf H:Hp) (x y:V) (dx dy:D) (Q:VK),Same Hf H->Rep X.K Hf dx x->Rep X.K Hf dy y->Po X.K E (rV X.K) Hf H (g dx dy) Q->r x y H Q)(sr:SR X.K H0 B Hf sd σ H)(h:Po X.K E (rV X.K) Hf H (Zl g fa fb sd) Q):Zi5 r ta tb σ H Q:=by
 refine ha H0 B Hf sd σ H _ sr (Po.bind h fun dx x Hf1 H1 _ g1 rx h1=>?_)
 have sr1:=sr.gr g1
 refine hb H0 B Hf1 sd σ H1 _ sr1 (Po.bind h1 fun dy y Hf2 H2 _ g2 ry h2=>?_)
 exact hr Hf2 H2 x y dx dy Q g2.sub (Rep.mono g2.fz rx) ry h2
def Zo {op:Operator}{g:D->D->M D}{fa fb:Zi->M D}(ho:P6 X E (binaryOp op) g)(ha:Xo X E a fa)(hb:Xo X E b fb):Xo X E (.BinOp a op b pos) (Zl g fa fb):=by
 obtain⟨r,hr,qr⟩:=ho
 obtain⟨ta,pa,qa⟩:=ha
 obtain⟨tb,pb,qb⟩:=hb
 exact⟨_,Zfy hr pa pb,fun H0 B Hf sd σ H Q sr h=>two qa qb qr sr h⟩
def Vs {op:CmpOp}{g:D->D->M D}{fa fb:Zi->M D}(ho:P6 X E (compareOp op) g)(ha:Xo X E a fa)(hb:Xo X E b fb)(hm:behindInMarks op b=false):Xo X E (.Compare a [op] [b] pos) (Zl g fa fb):=by
 obtain⟨r,hr,qr⟩:=ho
 obtain⟨ta,pa,qa⟩:=ha
 obtain⟨tb,pb,qb⟩:=hb
 exact⟨_,Zds hr pa pb hm,fun H0 B Hf sd σ H Q sr h=>two qa qb qr sr h⟩
def gI (c:Int->Int->Bool)(g:Int->Int->D):D->D->M D
 |.int i,.int j=>if c i j then .ok (g i j) else .bad
 |_,_=>.bad
def Eu (g:Int->Int->D):D->D->M D
 |.int i,.int j=>.ok (g i j)
 |_,_=>.bad
def Ag {f:Value->Value->Sem Value}{gv:Int->Int->V}{gd:Int->Int->D}(h:OpR X f (Zdo gv))(hg:∀i j (H:Hp),Rep X.K H (gd i j) (gv i j)):P6 X E f (Eu gd):=by
 refine⟨_,h,fun Hf H x y dx dy Q e rx ry q=>?_⟩
 unfold Eu at q
 split at q
 ·rename_i i j
  exact⟨i,j,rep_int.mp rx,rep_int.mp ry,Po.ret e q (hg i j Hf)⟩
 ·exact q.elim
def Zd9 {f:Value->Value->Sem Value}{C:Int->Int->Prop}{c:Int->Int->Bool}{gv:Int->Int->V}{gd:Int->Int->D}(h:OpR X f (rI C gv))(hc:∀i j,c i j=true->C i j)(hg:∀i j (H:Hp),Rep X.K H (gd i j) (gv i j)):P6 X E f (gI c gd):=by
 refine⟨_,h,fun Hf H x y dx dy Q e rx ry q=>?_⟩
 unfold gI at q
 split at q
 ·rename_i i j
  split at q
  ·rename_i hcc
   exact⟨i,j,rep_int.mp rx,rep_int.mp ry,hc i j hcc,Po.ret e q (hg i j Hf)⟩
  ·exact q.elim
 ·exact q.elim
def Jv:D->D->M D:=Eu fun i j=>.int (i-j)
def Zau:D->D->M D:=Eu fun i j=>.bl (decide (i<j))
def Zl2:D->D->M D:=Eu fun i j=>.bl (decide (i<=j))
def Gh:D->D->M D:=Eu fun i j=>.bl (decide (j<i))
def Zj6:D->D->M D:=Eu fun i j=>.bl (decide (j<=i))
def Jf:P6 X E (binaryOp .Sub) Jv:=Ag Zg7 fun _ _ _=>rep_int.mpr rfl
def Ev:P6 X E (compareOp .Lt) Zau:=Ag Zjp fun _ _ _=>rep_bl.mpr rfl
def Zf4:P6 X E (compareOp .LtE) Zl2:=Ag Zjq fun _ _ _=>rep_bl.mpr rfl
def Gi:P6 X E (compareOp .Gt) Gh:=Ag Zjr fun _ _ _=>rep_bl.mpr rfl
def Zj7:P6 X E (compareOp .GtE) Zj6:=Ag Zjs fun _ _ _=>rep_bl.mpr rfl
end
section
variable {X:Cx}{E:XK}{pos:Pos}{a b:Expr}
def Ew {i:Int}(h:i.natAbs<2 ^ 4000):Builtin.Int.intBits i<=2 ^ 20:=by
 unfold Builtin.Int.intBits
 split
 ·exact Nat.zero_le _
 ·rename_i hz
  have hn:i.natAbs≠0:=fun z=>hz (by rw[Int.natAbs_eq_zero.mp z];rfl)
  have:i.natAbs.log2<4000:=(Nat.log2_lt hn).mpr h
  have e:(2:Nat) ^ 20=1048576:=rfl
  lia
def Zl3 (i j:Int):Prop:=i.natAbs<2 ^ 4000/\j.natAbs<2 ^ 4000
def Zna (_i j:Int):Prop:=j≠0/\j.natAbs<2 ^ 4000
def Zho {j:Int}(h:j.natAbs<2 ^ 4000):j.natAbs.log2<9000:=by
 by_cases hn:j.natAbs=0
 ·rw[hn];decide
 ·have:j.natAbs.log2<4000:=(Nat.log2_lt hn).mpr h
  lia
def Zea:OpR X (binaryOp .Mult) (rI Zl3 fun i j=>.int (i*j)):=Zk9 fun _ _ _ _ _ _ _ hc q=>mul_int q (IntMulOk.of_bits (Ew hc.1) (Ew hc.2))
def Zav:OpR X (binaryOp .FloorDiv) (rI Zna fun i j=>.int (i.fdiv j)):=Zk9 fun _ _ _ _ _ _ _ hc q=>floordiv_int hc.1 q (.inl (PyProof.noPylong_of_log2 (Zho hc.2)))
def sm (i:Int):Bool:=decide (i.natAbs<2 ^ 4000)
def sm_iff {i:Int}:sm i=true↔i.natAbs<2 ^ 4000:=decide_eq_true_iff
def Zj8:D->D->M D:=gI (fun i j=>sm i&&sm j) fun i j=>.int (i*j)
def Yb:D->D->M D:=gI (fun _ j=>j != 0&&sm j) fun i j=>.int (i.fdiv j)
def Qa:D->D->M D:=gI (fun _ j=>j != 0) fun i j=>.int (i.fmod j)
def Zeb:D->D->M D:=gI (fun i j=>decide (0<=j/\j<=1000/\i.natAbs<1000)) fun i j=>.int (i ^ j.toNat)
def Zhp:P6 X E (binaryOp .Mult) Zj8:=Zd9 Zea (fun i j h=>by
 rw[Bool.and_eq_true] at h
 exact⟨sm_iff.mp h.1,sm_iff.mp h.2⟩) fun _ _ _=>rep_int.mpr rfl
def Yw:P6 X E (binaryOp .FloorDiv) Yb:=Zd9 Zav (fun i j h=>by
 rw[Bool.and_eq_true] at h
 exact⟨by simpa using h.1,sm_iff.mp h.2⟩) fun _ _ _=>rep_int.mpr rfl
def Qk:P6 X E (binaryOp .Mod) Qa:=Zd9 Zdq (fun i j h=>by simpa using h) fun _ _ _=>rep_int.mpr rfl
def Zhq:P6 X E (binaryOp .Pow) Zeb:=Zd9 Zg8 (fun i j h=>by
 have h:=of_decide_eq_true h
 refine⟨h.1,by lia,?_⟩
 have e:(2:Nat) ^ 64=18446744073709551616:=rfl
 lia) fun _ _ _=>rep_int.mpr rfl
def Ex {K:PySem.W.Frag}{H:Hp}{ds:List D}{xs:List V}{i:Int}{d:D}(r:Reps K H ds xs)(e:Rm ds i=some d):∃x,Rm xs i=some x/\Rep K H d x:=by
 unfold Rm at e ⊢
 rw[<-r.length]
 cases q:Zhe ds.length i with
 |none=>rw[q] at e;cases e
 |some j=>
  rw[q] at e
  exact r.get e
def Yu:D->D->M D
 |.lst ds,.int i=>match Rm ds i with
  |some d=>.ok d
  |none=>.bad
 |.tup ds,.int i=>match Rm ds i with
  |some d=>.ok d
  |none=>.bad
 |.str z,.int i=>if z.length<=sizeLine then(match Rm z.cps.toList i with
  |some c=>.ok (.str ⟨#[c]⟩)
  |none=>.bad) else .bad
 |_,_=>.bad
def Jw {fa fb:Zi->M D}(ha:Xo X E a fa)(hb:Xo X E b fb)(hs:Es b):Xo X E (.Subscript a b pos) (Zl Yu fa fb):=by
 obtain⟨ta,pa,qa⟩:=ha
 obtain⟨tb,pb,qb⟩:=hb
 refine⟨_,Zjy Zhg pa pb hs,fun H0 B Hf sd σ H Q sr h=>two qa qb (fun Hf H x y dx dy Q e rx ry q=>?_) sr h⟩
 unfold Yu at q
 split at q
 ·rename_i ds i
  split at q
  ·rename_i d ei
   obtain⟨p,xs,rfl,hp,hr⟩:=rep_lst.mp rx
   obtain⟨v,e1,e2⟩:=Ex hr ei
   exact .inl ⟨p,xs,i,v,rfl,rep_int.mp ry,e.seq hp,e1,Po.ret e q e2⟩
  ·exact q.elim
 ·rename_i ds i
  split at q
  ·rename_i d ei
   obtain⟨p,xs,rfl,hp,hr⟩:=Qm rx
   obtain⟨v,e1,e2⟩:=Ex hr ei
   exact .inr (.inl ⟨p,xs,i,v,rfl,rep_int.mp ry,Same.seqT e hp,e1,Po.ret e q e2⟩)
  ·exact q.elim
 ·rename_i z i
  split at q
  ·rename_i hz
   split at q
   ·rename_i c ei
    exact .inr (.inr ⟨z,i,c,rep_str.mp rx,rep_int.mp ry,hz,ei,Po.ret e q (rep_str.mpr rfl)⟩)
   ·exact q.elim
  ·exact q.elim
 ·exact q.elim
def Zh (_:Zi):M (List D):=.ok []
def Zb (fa:Zi->M D)(fr:Zi->M (List D))(sd:Zi):M (List D):=(fa sd).bind fun d=>(fr sd).bind fun ds=>.ok (d::ds)
def Ze:Bz X E [] Zh:=⟨_,X7,fun _ _ _ _ _ _ _ sr h=>Po.ret sr.sub h Reps.nil⟩
def Za {es:List Expr}{fa:Zi->M D}{fr:Zi->M (List D)}(ha:Xo X E a fa)(hr:Bz X E es fr)(hs:starEach (a::es) X.env=(false,eval a X.env)::starEach es X.env:=by rfl):Bz X E (a::es) (Zb fa fr):=by
 obtain⟨ta,pa,qa⟩:=ha
 obtain⟨tr,pr,qr⟩:=hr
 refine⟨_,Qo pa pr hs,fun H0 B Hf sd σ H Q sr h=>?_⟩
 refine qa H0 B Hf sd σ H _ sr (Po.bind h fun d v Hf1 H1 _ g1 rv h1=>?_)
 refine qr H0 B Hf1 sd σ H1 _ (sr.gr g1) (Po.bind h1 fun ds vs Hf2 H2 _ g2 rs h2=>?_)
 exact Po.ret g2.sub h2 (Reps.cons (Rep.mono g2.fz rv) rs)
def few (ds:List D):Bool:=decide (ds.length<=1000000)
def Vy {K:PySem.W.Frag}{H:Hp}{ds:List D}{xs:List V}(h:few ds=true)(r:Reps K H ds xs):xs.length<=sizeLine:=by
 have:=of_decide_eq_true h
 have e:=sizeLine_eq
 rw[<-r.length,e]
 lia
def Qq (fs:Zi->M (List D))(sd:Zi):M D:=(fs sd).bind fun ds=>if few ds then .ok (.tup ds) else .bad
def Xh (fs:Zi->M (List D))(sd:Zi):M D:=(fs sd).bind fun ds=>if few ds then .ok (.lst ds) else .bad
theorem Gr.tup {K:PySem.W.Frag}{Hf H:Hp}{p:Addr}{ds:List D}{xs:List V}(e:Same Hf H)(hp:H p=none)(r:Reps K Hf ds xs):Rep K (upd Hf p (.tup xs)) (.tup ds) (.ref p):=
 rep_tup.mpr ⟨p,xs,rfl,Zu,r.mono (Qs (e.free hp) _)⟩
theorem Gr.lst {K:PySem.W.Frag}{Hf H:Hp}{p:Addr}{ds:List D}{xs:List V}(e:Same Hf H)(hp:H p=none)(r:Reps K Hf ds xs):Rep K (upd Hf p (.lst xs)) (.lst ds) (.ref p):=
 rep_lst.mpr ⟨p,xs,rfl,SqL.of Zu,r.mono (Qs (e.free hp) _)⟩
def Qe {es:List Expr}{fs:Zi->M (List D)}{x1}(h:Bz X E es fs):Xo X E (.Tuple es x1 pos) (Qq fs):=by
 obtain⟨t,p,q⟩:=h
 refine⟨_,Md p,fun H0 B Hf sd σ H Q sr h=>?_⟩
 refine q H0 B Hf sd σ H _ sr (Po.bind h fun ds vs Hf1 H1 _ g1 rs h1=>?_)
 split at h1
 ·rename_i hf
  exact⟨Vy hf rs,fun p hp=>h1 _ _ _ (Gr.alloc g1.sub hp _) (Gr.tup g1.sub hp rs)⟩
 ·exact h1.elim
def X8 {es:List Expr}{fs:Zi->M (List D)}(h:Bz X E es fs):Xo X E (.List es pos) (Xh fs):=by
 obtain⟨t,p,q⟩:=h
 refine⟨_,Df p,fun H0 B Hf sd σ H Q sr h=>?_⟩
 refine q H0 B Hf sd σ H _ sr (Po.bind h fun ds vs Hf1 H1 _ g1 rs h1=>?_)
 split at h1
 ·rename_i hf
  exact⟨Vy hf rs,fun p hp=>h1 _ _ _ (Gr.alloc g1.sub hp _) (Gr.lst g1.sub hp rs)⟩
 ·exact h1.elim
def Uz (X:Cx)(E:XK)(f:Value)(g:List D->M D):Prop:=
 ∃r,CallR X f r/\∀(Hf H:Hp) (xs:List V) (ds:List D) (Q:VK),Same Hf H->Reps X.K Hf ds xs->Po X.K E (rV X.K) Hf H (g ds) Q->r xs H Q
def J2 (g:List D->M D)(fs:Zi->M (List D))(sd:Zi):M D:=(fs sd).bind g
def Qw {x:Str}{id:String}{p:Pos}{g:List D->M D}{e:Expr}{es:List Expr}{fs:Zi->M (List D)}(hc:Uz X E (.builtin id) g)(hg:Gl X x)(hm:X.mg x=none)(hv:bootBuiltins x=some (.builtin id))(ha:Bz X E (e::es) fs)
  (hn:x ≠ "__name__":=by decide) (hdb:(x==("__debug__":Str))=false:=by decide)
  (he:starEach (e::es) X.env=(false,eval e X.env)::starEach es X.env:=by rfl) (hpl:(backTo pos (starEach es X.env)).any (·.1)=false:=by rfl):Xo X E (.Call (.Name x p) (e::es) [] pos) (J2 g fs):=by
 obtain⟨r,hr,qr⟩:=hc
 obtain⟨t,pt,qt⟩:=ha
 refine⟨_,B9 hr hg hm hv pt hn hdb he hpl,fun H0 B Hf sd σ H Q sr h=>?_⟩
 exact qt H0 B Hf sd σ H _ sr (Po.bind h fun ds vs Hf1 H1 _ g1 rs h1=>qr Hf1 H1 vs ds Q g1.sub rs h1)
def Vz {x:Str}{T:String}{p:Pos}{g:List D->M D}{e:Expr}{es:List Expr}{fs:Zi->M (List D)}(hc:Uz X E (.type T) g)(hg:Gl X x)(hm:X.mg x=none)(hv:bootBuiltins x=some (.type T))(ha:Bz X E (e::es) fs)
  (hn:x ≠ "__name__":=by decide) (hdb:(x==("__debug__":Str))=false:=by decide)
  (he:starEach (e::es) X.env=(false,eval e X.env)::starEach es X.env:=by rfl) (hpl:(backTo pos (starEach es X.env)).any (·.1)=false:=by rfl):Xo X E (.Call (.Name x p) (e::es) [] pos) (J2 g fs):=by
 obtain⟨r,hr,qr⟩:=hc
 obtain⟨t,pt,qt⟩:=ha
 refine⟨_,Ij hr hg hm hv pt hn hdb he hpl,fun H0 B Hf sd σ H Q sr h=>?_⟩
 exact qt H0 B Hf sd σ H _ sr (Po.bind h fun ds vs Hf1 H1 _ g1 rs h1=>qr Hf1 H1 vs ds Q g1.sub rs h1)
def Kf {K:PySem.W.Frag}{H:Hp}{d:D}{xs:List V}(r:Reps K H [d] xs):∃x,xs=[x]/\Rep K H d x:=by
 obtain⟨x,t,rfl,h,r2⟩:=reps_cons.mp r
 rw[reps_nil.mp r2];exact⟨x,rfl,h⟩
def Zaw {K:PySem.W.Frag}{H:Hp}{d e:D}{xs:List V}(r:Reps K H [d,e] xs):∃x y,xs=[x,y]/\Rep K H d x/\Rep K H e y:=by
 obtain⟨x,t,rfl,h,r2⟩:=reps_cons.mp r
 obtain⟨y,rfl,h2⟩:=Kf r2
 exact⟨x,y,rfl,h,h2⟩
def Wy:List D->M D
 |[.int i]=>.ok (.int (if i<0 then -i else i))
 |_=>.bad
def Nm:Uz X E (.builtin "abs") Wy:=by
 refine⟨_,Zag,fun Hf H xs ds Q e r q=>?_⟩
 unfold Wy at q
 split at q
 ·obtain⟨x,rfl,h⟩:=Kf r
  rw[rep_int.mp h]
  exact⟨_,rfl,Po.ret e q (rep_int.mpr rfl)⟩
 ·exact q.elim
def Iu:List D->M D
 |[.int i]=>.ok (.int i)
 |[.bl b]=>.ok (.int (if b then 1 else 0))
 |_=>.bad
def Zhr:Uz X E (.type "int") Iu:=by
 refine⟨_,Id,fun Hf H xs ds Q e r q=>?_⟩
 unfold Iu at q
 split at q
 ·obtain⟨x,rfl,h⟩:=Kf r
  rw[rep_int.mp h]
  exact .inl ⟨_,rfl,Po.ret e q (rep_int.mpr rfl)⟩
 ·obtain⟨x,rfl,h⟩:=Kf r
  rw[rep_bl.mp h]
  exact .inr ⟨_,rfl,Po.ret e q (rep_int.mpr rfl)⟩
 ·exact q.elim
def V0:List D->M D
 |[.lst ds]=>.ok (.int ds.length)
 |[.tup ds]=>.ok (.int ds.length)
 |[.str z]=>if z.length<=sizeLine then .ok (.int z.length) else .bad
 |_=>.bad
def Ub:Uz X E (.builtin "len") V0:=by
 refine⟨_,call_len_seq.or Mi,fun Hf H xs ds Q e r q=>?_⟩
 unfold V0 at q
 split at q
 ·obtain⟨x,rfl,h⟩:=Kf r
  obtain⟨p,ys,rfl,hp,hr⟩:=rep_lst.mp h
  refine .inl ⟨p,ys,rfl,.inl (e.seq hp),?_⟩
  rw[<-hr.length]
  exact Po.ret e q (rep_int.mpr rfl)
 ·obtain⟨x,rfl,h⟩:=Kf r
  obtain⟨p,ys,rfl,hp,hr⟩:=Qm h
  refine .inl ⟨p,ys,rfl,.inr (Same.seqT e hp),?_⟩
  rw[<-hr.length]
  exact Po.ret e q (rep_int.mpr rfl)
 ·split at q
  ·rename_i hz
   obtain⟨x,rfl,h⟩:=Kf r
   rw[rep_str.mp h]
   exact .inr ⟨_,rfl,hz,Po.ret e q (rep_int.mpr rfl)⟩
  ·exact q.elim
 ·exact q.elim
def La:List D->M D
 |[.lst ds]=>.ok (.lst ds)
 |[.tup ds]=>.ok (.lst ds)
 |_=>.bad
def Ey:Uz X E (.type "list") La:=by
 refine⟨_,Mj,fun Hf H xs ds Q e r q=>?_⟩
 unfold La at q
 split at q
 ·obtain⟨x,rfl,h⟩:=Kf r
  obtain⟨p,ys,rfl,hp,hr⟩:=rep_lst.mp h
  exact⟨p,ys,rfl,.inl (e.seq hp),fun l hl=>q _ _ _ (Gr.alloc e hl _) (Gr.lst e hl hr)⟩
 ·obtain⟨x,rfl,h⟩:=Kf r
  obtain⟨p,ys,rfl,hp,hr⟩:=Qm h
  exact⟨p,ys,rfl,.inr (Same.seqT e hp),fun l hl=>q _ _ _ (Gr.alloc e hl _) (Gr.lst e hl hr)⟩
 ·exact q.elim
def Ro:List D->M D
 |[.lst ds]=>.ok (.tup ds)
 |[.tup ds]=>.ok (.tup ds)
 |_=>.bad
def Rp:Uz X E (.type "tuple") Ro:=by
 refine⟨_,Tj,fun Hf H xs ds Q e r q=>?_⟩
 unfold Ro at q
 split at q
 ·obtain⟨x,rfl,h⟩:=Kf r
  obtain⟨p,ys,rfl,hp,hr⟩:=rep_lst.mp h
  exact⟨p,ys,rfl,.inl ⟨e.seq hp,fun l hl=>q _ _ _ (Gr.alloc e hl _) (Gr.tup e hl hr)⟩⟩
 ·obtain⟨x,rfl,h⟩:=Kf r
  obtain⟨p,ys,rfl,hp,hr⟩:=Qm h
  exact⟨p,ys,rfl,.inr ⟨Same.seqT e hp,Po.ret e q (h)⟩⟩
 ·exact q.elim
def asB:D->M Bool
 |.bl b=>.ok b
 |_=>.bad
def tB (f:Zi->M D)(sd:Zi):M Bool:=(f sd).bind asB
def tN (f:Zi->M Bool)(sd:Zi):M Bool:=(f sd).bind fun b=>.ok (!b)
def tA (f g:Zi->M Bool)(sd:Zi):M Bool:=(f sd).bind fun b=>if b then g sd else .ok false
def tO (f g:Zi->M Bool)(sd:Zi):M Bool:=(f sd).bind fun b=>if b then .ok true else g sd
def Yq {e:Expr}{f:Zi->M D}(h:Xo X E e f)(he:∀whole,isTrue e X.env whole=(do let v <-whole;standAt e.pos;holding [v] (truthy v)):=by intro _;rfl):B0 X E e (tB f):=by
 obtain⟨t,p,q⟩:=h
 refine⟨_,Zgv p he,fun H0 B Hf sd σ H Q sr h=>?_⟩
 refine q H0 B Hf sd σ H _ sr (Po.bind h fun d v Hf1 H1 _ g1 rv h1=>?_)
 unfold asB at h1
 split at h1
 ·exact⟨_,rep_bl.mp rv,Po.ret (R:=rQ) g1.sub h1 rfl⟩
 ·exact h1.elim
def Zr {op:CmpOp}{g:D->D->M D}{fa fb:Zi->M D}(ho:P6 X E (compareOp op) g)(ha:Xo X E a fa)(hb:Xo X E b fb)(hm:behindInMarks op b=false):B0 X E (.Compare a [op] [b] pos) (tB (Zl g fa fb)):=by
 obtain⟨r,hr,qr⟩:=ho
 obtain⟨ta,pa,qa⟩:=ha
 obtain⟨tb,pb,qb⟩:=hb
 refine⟨_,Eo hr pa pb hm,fun H0 B Hf sd σ H Q sr h=>?_⟩
 refine two qa qb qr sr (Po.bind h fun d v Hf1 H1 _ g1 rv h1=>?_)
 unfold asB at h1
 split at h1
 ·exact⟨_,rep_bl.mp rv,Po.ret (R:=rQ) g1.sub h1 rfl⟩
 ·exact h1.elim
def Jn {f:Zi->M Bool}(h:B0 X E a f):B0 X E (.UnaryOp .Not a pos) (tN f):=by
 obtain⟨t,p,q⟩:=h
 refine⟨_,Zgy p,fun H0 B Hf sd σ H Q sr h=>?_⟩
 refine q H0 B Hf sd σ H _ sr (Po.bind h fun b v Hf1 H1 _ g1 rv h1=>?_)
 have e:b=v:=rv
 subst e
 exact Po.ret (R:=rQ) g1.sub h1 rfl
theorem PWd.pt {f:Zi->M Bool}{e:Expr}(h:PWd X E e f):B0 X E e f:=by
 obtain⟨t,p,q⟩:=h
 exact⟨t,p.pt,q⟩
def Ky {f:Zi->M Bool}(h:B0 X E a f):PWd X E (.BoolOp .And [a] pos) f:=by
 obtain⟨t,p,q⟩:=h
 exact⟨t,Zdm p,q⟩
def Vc {f:Zi->M Bool}(h:B0 X E a f):PWd X E (.BoolOp .Or [a] pos) f:=by
 obtain⟨t,p,q⟩:=h
 exact⟨t,Zgw p,q⟩
def Ki {rest:List Expr}{f g:Zi->M Bool}(h:B0 X E a f)(h2:PWd X E (.BoolOp .And (b::rest) pos) g):PWd X E (.BoolOp .And (a::b::rest) pos) (tA f g):=by
 obtain⟨t,p,q⟩:=h
 obtain⟨t2,p2,q2⟩:=h2
 refine⟨_,Zgx p p2,fun H0 B Hf sd σ H Q sr h=>?_⟩
 refine q H0 B Hf sd σ H _ sr (Po.bind h fun b v Hf1 H1 _ g1 rv h1=>?_)
 have e:b=v:=rv
 subst e
 cases b with
 |true=>rw[if_pos rfl] at h1 ⊢;exact q2 H0 B Hf1 sd σ H1 Q (sr.gr g1) h1
 |false=>rw[if_neg Bool.false_ne_true] at h1 ⊢;exact Po.ret (R:=rQ) g1.sub h1 rfl
def Uc {rest:List Expr}{f g:Zi->M Bool}(h:B0 X E a f)(h2:PWd X E (.BoolOp .Or (b::rest) pos) g):PWd X E (.BoolOp .Or (a::b::rest) pos) (tO f g):=by
 obtain⟨t,p,q⟩:=h
 obtain⟨t2,p2,q2⟩:=h2
 refine⟨_,Zjf p p2,fun H0 B Hf sd σ H Q sr h=>?_⟩
 refine q H0 B Hf sd σ H _ sr (Po.bind h fun b v Hf1 H1 _ g1 rv h1=>?_)
 have e:b=v:=rv
 subst e
 cases b with
 |true=>rw[if_pos rfl] at h1 ⊢;exact Po.ret (R:=rQ) g1.sub h1 rfl
 |false=>rw[if_neg Bool.false_ne_true] at h1 ⊢;exact q2 H0 B Hf1 sd σ H1 Q (sr.gr g1) h1
def Pq (f g:Zi->M D)(sd:Zi):M D:=(f sd).bind fun d=>(asB d).bind fun b=>if b then g sd else .ok (.bl false)
def Zj9 (f:Zi->M D)(sd:Zi):M D:=(f sd).bind fun d=>(asB d).bind fun b=>.ok (.bl (!b))
def Nn (c:Zi->M Bool)(f g:Zi->M D)(sd:Zi):M D:=(c sd).bind fun b=>if b then f sd else g sd
def Mn {op}{f:Zi->M D}(h:Xo X E a f):Xo X E (.BoolOp op [a] pos) f:=by
 obtain⟨t,p,q⟩:=h
 exact⟨t,Zgz p,q⟩
def Zhs {d:D}{b:Bool}(h:asB d=.ok b):d=.bl b:=by
 unfold asB at h
 split at h
 ·cases h;rfl
 ·cases h
def Zax {d:D}{x:XV}(h:asB d=.ex x):False:=by
 unfold asB at h
 split at h<;>cases h
theorem Po.asB {K:PySem.W.Frag}{α β:Type}{R:Hp->Hp->α->β->Prop}{Hf H:Hp}{d:D}{k:Bool->M α}{Q:β->Hp->Prop}(h:Po K E R Hf H ((asB d).bind k) Q):∃b,d=.bl b/\Po K E R Hf H (k b) Q:=by
 cases q:DL.asB d with
 |ok b=>rw[q] at h;exact⟨b,Zhs q,h⟩
 |ex x=>exact(Zax q).elim
 |bad=>rw[q] at h;exact h.elim
def No {rest:List Expr}{f g:Zi->M D}(h:Xo X E a f)(h2:Xo X E (.BoolOp .And (b::rest) pos) g):Xo X E (.BoolOp .And (a::b::rest) pos) (Pq f g):=by
 obtain⟨t,p,q⟩:=h
 obtain⟨t2,p2,q2⟩:=h2
 refine⟨_,Zg0 p p2,fun H0 B Hf sd σ H Q sr h=>?_⟩
 refine q H0 B Hf sd σ H _ sr (Po.bind h fun d v Hf1 H1 _ g1 rv h1=>?_)
 obtain⟨c,rfl,h2⟩:=Po.asB h1
 refine⟨c,rep_bl.mp rv,?_⟩
 cases c with
 |true=>rw[if_pos rfl] at h2 ⊢;exact q2 H0 B Hf1 sd σ H1 Q (sr.gr g1) h2
 |false=>rw[if_neg Bool.false_ne_true] at h2 ⊢;exact Po.ret (R:=rV X.K) g1.sub h2 (rep_bl.mpr rfl)
def Zht {f:Zi->M D}(h:Xo X E a f):Xo X E (.UnaryOp .Not a pos) (Zj9 f):=by
 obtain⟨t,p,q⟩:=h
 refine⟨_,Zg1 p,fun H0 B Hf sd σ H Q sr h=>?_⟩
 refine q H0 B Hf sd σ H _ sr (Po.bind h fun d v Hf1 H1 _ g1 rv h1=>?_)
 obtain⟨c,rfl,h2⟩:=Po.asB h1
 exact⟨c,rep_bl.mp rv,Po.ret (R:=rV X.K) g1.sub h2 (rep_bl.mpr rfl)⟩
def Yz {c:Expr}{f g:Zi->M D}{k:Zi->M Bool}(hc:B0 X E c k)(h:Xo X E a f)(h2:Xo X E b g):Xo X E (.IfExp c a b pos) (Nn k f g):=by
 obtain⟨t,p,q⟩:=hc
 obtain⟨t1,p1,q1⟩:=h
 obtain⟨t2,p2,q2⟩:=h2
 refine⟨_,B6 p p1 p2,fun H0 B Hf sd σ H Q sr h=>?_⟩
 refine q H0 B Hf sd σ H _ sr (Po.bind h fun c v Hf1 H1 _ g1 rv h1=>?_)
 have e:c=v:=rv
 subst e
 cases c with
 |true=>rw[if_pos rfl] at h1 ⊢;exact q1 H0 B Hf1 sd σ H1 Q (sr.gr g1) h1
 |false=>rw[if_neg Bool.false_ne_true] at h1 ⊢;exact q2 H0 B Hf1 sd σ H1 Q (sr.gr g1) h1
end
section
variable {X:Cx}{E:XK}{pos:Pos}{a b:Expr}
def Q3 (sd:Zi):M O:=.ok (.nx sd)
def Zx (f g:Zi->M O)(sd:Zi):M O:=(f sd).bind fun o=>match o with
 |.nx sd'=>g sd'
 |o=>.ok o
def Z9:Nl X E [] Q3:=⟨_,P4,fun _ _ Hf _ _ _ _ sr h=>h _ Hf _ (Same.refl _) sr⟩
def Zm {st:Stmt}{f:Zi->M O}(h:Tf X E st f):Nl X E [st] f:=by
 obtain⟨t,p,q⟩:=h
 exact⟨t,Jm p,q⟩
def Zg {st:Stmt}{rest:List Stmt}{f g:Zi->M O}(h:Tf X E st f)(h2:Nl X E rest g):Nl X E (st::rest) (Zx f g):=by
 obtain⟨t,p,q⟩:=h
 obtain⟨t2,p2,q2⟩:=h2
 refine⟨_,Qz p p2,fun H0 B Hf sd σ H D sr h=>?_⟩
 refine q H0 B Hf sd σ H _ sr ?_
 unfold Zx at h
 cases e:f sd with
 |ok o=>
  rw[e] at h
  cases o with
  |nx sd'=>exact fun σ' Hf' H' e' sr'=>q2 H0 B Hf' sd' σ' H' D sr' (PoS.weak e' h)
  |rt s=>exact h
  |bk sd'=>exact h
  |ct sd'=>exact h
 |ex x=>rw[e] at h;exact h
 |bad=>rw[e] at h;exact h
def Z5 (i:Nat)(f:Zi->M D)(sd:Zi):M O:=(f sd).bind fun d=>.ok (.nx (sd.set i (some (.im d))))
def Zq (i:Nat){x:Str}{e:Expr}{f:Zi->M D}{pos':Pos}(hN:X.N.Nodup)(h:Xo X E e f)(hi:X.N[i]?=some x:=by rfl)(hx:Zde X.env.scope x:=by trivial)(hs:swapsWith e (some (.Name x pos')) pos.line X.env=pure false:=by rfl)(hf:X.fn x=true\/X.env.scope.names.lookup x=some .local:=by first|exact .inl rfl|exact .inr rfl|assumption):
  Tf X E (.Assign [.Name x pos'] e pos) (Z5 i f):=by
 obtain⟨t,p,q⟩:=h
 refine⟨_,W1 hN hi hx p hs hf,fun H0 B Hf sd σ H D sr h=>?_⟩
 refine q H0 B Hf sd σ H _ sr (PoS.bind sr h fun d v Hf1 H1 _ g1 sr1 rv h1=>?_)
 exact h1 _ Hf1 H1 (Same.refl _) (sr1.set_im i rv)
def Qr (f:Zi->M D)(sd:Zi):M O:=(f sd).bind fun d=>.ok (.rt (.im d))
def Zs {e:Expr}{f:Zi->M D}(h:Xo X E e f):Tf X E (.Return (some e) pos) (Qr f):=by
 obtain⟨t,p,q⟩:=h
 refine⟨_,Nh p,fun H0 B Hf sd σ H D sr h=>?_⟩
 refine q H0 B Hf sd σ H _ sr (PoS.bind sr h fun d v Hf1 H1 _ g1 sr1 rv h1=>?_)
 exact h1 v Hf1 H1 (Same.refl _) sr1.fin rv
def Xw (c:Zi->M Bool)(f g:Zi->M O)(sd:Zi):M O:=(c sd).bind fun b=>if b then f sd else g sd
def Qh {c:Expr}{xs ys:List Stmt}{k:Zi->M Bool}{f g:Zi->M O}(hc:B0 X E c k)(h:Nl X E xs f)(h2:Nl X E ys g):Tf X E (.If c xs ys pos) (Xw k f g):=by
 obtain⟨t,p,q⟩:=hc
 obtain⟨t1,p1,q1⟩:=h
 obtain⟨t2,p2,q2⟩:=h2
 refine⟨_,Ek p p1 p2,fun H0 B Hf sd σ H D sr h=>?_⟩
 refine q H0 B Hf sd σ H _ sr (PoS.bind (R:=rQ) sr h fun c v Hf1 H1 _ g1 sr1 rv h1=>?_)
 have e:c=v:=rv
 subst e
 cases c with
 |true=>rw[if_pos rfl] at h1 ⊢;exact q1 H0 B Hf1 sd σ H1 D sr1 h1
 |false=>rw[if_neg Bool.false_ne_true] at h1 ⊢;exact q2 H0 B Hf1 sd σ H1 D sr1 h1
def Yv (c:Zi->M Bool)(f:Zi->M O):Nat->Zi->M O
 |0,_=>.bad
 |n+1,sd=>(c sd).bind fun b=>if b then((f sd).bind fun o=>match o with
   |.nx sd'=>Yv c f n sd'
   |.ct sd'=>Yv c f n sd'
   |.bk sd'=>.ok (.nx sd')
   |.rt s=>.ok (.rt s)) else .ok (.nx sd)
open Classical in
noncomputable def W3 (c:Zi->M Bool)(f:Zi->M O)(sd:Zi):M O:=if h:∃n,Yv c f n sd≠.bad then Yv c f (choose h) sd else .bad
theorem Vd (c:Zi->M Bool)(f:Zi->M O):∀(n m:Nat) (sd:Zi),n<=m->Yv c f n sd≠.bad->Yv c f m sd=Yv c f n sd
 |0,_,_,_,h=>absurd rfl h
 |n+1,0,_,hm,_=>absurd hm (by lia)
 |n+1,m+1,sd,hm,h=>by
  unfold Yv at h ⊢
  cases e:c sd with
  |ok b=>
   rw[e] at h
   simp only[M.bind_ok] at h ⊢
   cases b with
   |false=>rfl
   |true=>
    simp only[if_true] at h ⊢
    cases e2:f sd with
    |ok o=>
     rw[e2] at h
     simp only[M.bind_ok] at h ⊢
     cases o with
     |nx sd'=>exact Vd c f n m sd' (by lia) h
     |ct sd'=>exact Vd c f n m sd' (by lia) h
     |bk sd'=>rfl
     |rt s=>rfl
    |ex x=>rfl
    |bad=>rfl
  |ex x=>rfl
  |bad=>rfl
def Lb {c:Zi->M Bool}{f:Zi->M O}{n:Nat}{sd:Zi}(h:Yv c f n sd≠.bad):W3 c f sd=Yv c f n sd:=by
 unfold W3
 have hx:∃n,Yv c f n sd≠.bad:=⟨n,h⟩
 rw[dif_pos hx]
 have h2:=Classical.choose_spec hx
 rcases Nat.le_total n (Classical.choose hx) with l|l
 ·exact Vd c f _ _ sd l h
 ·exact(Vd c f _ _ sd l h2).symm
def Lc {c:Expr}{body:List Stmt}{k:Zi->M Bool}{f:Zi->M O}(hp:PassesOwn (model X.prog X.w) X.A X.env X.xe)(hc:B0 X E c k)(h:Nl X E body f):Tf X E (.While c body [] pos) (W3 k f):=by
 obtain⟨t,p,q⟩:=hc
 obtain⟨t1,p1,q1⟩:=h
 refine⟨_,B7 hp p p1,fun H0 B Hf sd σ H D sr h=>?_⟩
 obtain⟨n,hn⟩:∃n,PoS X.K E H0 B Hf (Yv k f n sd) D:=by
  unfold W3 at h
  split at h
  ·exact⟨_,h⟩
  ·exact h.elim
 refine⟨fun m σ' H'=>∃Hf' sd',Same Hf Hf'/\SR X.K H0 B Hf' sd' σ' H'/\PoS X.K E H0 B Hf' (Yv k f m sd') D,⟨n,Hf,sd,Same.refl _,sr,hn⟩,?_⟩
 rintro m σ1 H1 ⟨Hf1,sd1,e1,sr1,h1⟩
 cases m with
 |zero=>exact h1.elim
 |succ m=>
  unfold Yv at h1
  refine q H0 B Hf1 sd1 σ1 H1 _ sr1 (PoS.bind (R:=rQ) sr1 h1 fun c v Hf2 H2 _ g2 sr2 rv h2=>?_)
  have e:c=v:=rv
  subst e
  cases c with
  |false=>
   rw[if_neg Bool.false_ne_true] at h2 ⊢
   exact h2 σ1 Hf2 H2 (Same.refl _) sr2
  |true=>
   rw[if_pos rfl] at h2 ⊢
   refine⟨fun σ' H'=>∃Hf' sd',Same Hf Hf'/\SR X.K H0 B Hf' sd' σ' H'/\PoS X.K E H0 B Hf' (Yv k f m sd') D,fun σ' H' w=>⟨m,Nat.lt_succ_self m,w⟩,?_⟩
   refine q1 H0 B Hf2 sd1 σ1 H2 _ sr2 ?_
   cases e2:f sd1 with
   |ok o=>
    rw[e2] at h2
    cases o with
    |nx sd'=>exact fun σ' Hf' H' e' sr'=>⟨Hf',sd',e1.trans (g2.fz.trans e'),sr',PoS.weak e' h2⟩
    |ct sd'=>exact fun σ' Hf' H' e' sr'=>⟨Hf',sd',e1.trans (g2.fz.trans e'),sr',PoS.weak e' h2⟩
    |bk sd'=>exact h2
    |rt s=>exact h2
   |ex x=>rw[e2] at h2;exact h2
   |bad=>rw[e2] at h2;exact h2
end
section
variable {prog:Program}{w:World}{A:Around}{E:Value->Shared->Prop}
theorem Ld {it t:Addr}{items:Array Value}(hne:t≠it):∀(n i:Nat) (s:Shared) (Q:List Value->Shared->Prop),s.heap.IsListIter it t i->s.heap.IsList t items->i+n<=items.size ->
  (∀h',h'.IsListIter it t (i+n)->Heap.SameBut it s.heap h'->Q ((items.toList.drop i).take n) {s with heap:=h'})->wpAny (model prog w) A (draw (.ref it) n) Q E s
 |0,i,s,Q,hit,_,_,hQ=>by
  show wpAny _ _ (pure []) Q E s
  exact wpAny_pure (by simpa using hQ s.heap hit (Heap.SameBut.refl ..))
 |n+1,i,s,Q,hit,ht,hle,hQ=>by
  have hlt:i<items.size:=by lia
  show wpAny _ _ (pyNext (.ref it)>>=_) Q E s
  refine wpAny_bind (wpAny_pyNext_list_item hit ht (x:=items[i]) (by simp[hlt]) fun h₁ hit₁ hs₁=>?_)
  refine wpAny_bind (wpAny_holding (Ld hne n (i+1) _ _ hit₁ (ht.extBut hs₁.extBut hne) (by lia) fun h₂ hit₂ hs₂=>wpAny_pure ?_))
  have hd:items.toList.drop i=items[i]::items.toList.drop (i+1):=by simp[List.drop_eq_getElem_cons,hlt]
  have:=hQ h₂ (by rw[show i+(n+1)=i+1+n by lia];exact hit₂) (hs₁.trans hs₂)
  rw[hd,List.take_succ_cons] at this
  exact this
def Np {s:Shared}{t:Addr}{items:Array Value}{Q:List Value->Shared->Prop}(hh:A.handled=none)(ht:s.heap.IsList t items)(hQ:∀h',Heap.ExtBut s.heap.objs.size s.heap h'->Q items.toList {s with heap:=h'}):wpAny (model prog w) A (unpackItems (.ref t) items.size none) Q E s:=by
 have hlt:t≠s.heap.objs.size:=by obtain⟨o,ho,_⟩:=ht;exact Nat.ne_of_lt (Heap.lt_size ho)
 unfold unpackItems
 refine wpAny_bind ?_
 ·unfold notIterableAtAll
  refine wpAny_bind (wpAny_specialOf ht.typeIs slot_list_iter.lookup ?_)
  refine wpAny_pure ?_
  simp only[Bool.false_eq_true,if_false]
  refine wpAny_bind (wpAny_holding (wpAny_pyIter_list ht ?_))
  refine wpAny_bind (wpAny_holding (Ld hlt items.size 0 _ _ ⟨_,Heap.get?_push_size _ rfl,rfl,rfl⟩ (ht.push _) (by lia) fun h₁ hit₁ hs₁=>?_))
  have hall:List.take items.size (List.drop 0 items.toList)=items.toList:=by
   rw[List.drop_zero];exact List.take_of_length_le (by simp)
  rw[hall]
  rw[if_neg (by simp)]
  have ht₁:h₁.IsList t items:=(ht.push _).extBut hs₁.extBut hlt
  refine wpAny_bind (wpAny_holding (wpAny_pyNext_list_end hh hit₁ ht₁ (by simp) fun h₂ he₂=>?_))
  simp only[Option.isSome_none,Bool.false_eq_true,if_false]
  refine wpAny_pure (hQ h₂ fun b o hb e=>he₂ b o hb (hs₁.extBut b o hb (Heap.get?_push_of_some _ e)))
def Gj {s:Shared}{env:Env}{elts:List Expr}{x1}{pos:Pos}{t:Addr}{items:Array Value}{Q:Unit->Shared->Prop}(hh:A.handled=none)(ht:s.heap.IsList t items)(hn:(assignEach elts env).length=items.size)(hstar:(assignEach elts env).findIdx? (·.1)=none)(h:∀h',Heap.ExtBut s.heap.objs.size s.heap h'->wpAny (model prog w) A (assignInOrder ((assignEach elts env).map (·.2)) items.toList) Q E {s with heap:=h'}):
  wpAny (model prog w) A (assign (.Tuple elts x1 pos) env (.ref t)) Q E s:=by
 rw[assign_Tuple]
 refine wpAny_bind (wpAny_standAt ?_)
 unfold unpack
 rw[hn,hstar]
 exact wpAny_bind (wpAny_holding (Np hh ht h))
def Dj (x:Str):List V:=x.cps.toList.map fun c=>V.str ⟨#[c]⟩
theorem Ah {it:Addr}{x:Str}{t:Tok}:∀(n i:Nat) (s:Shared) (Q:List Value->Shared->Prop),s.heap.IsStrIter it "str_ascii_iterator" x t i->i+n<=x.cps.size ->
  (∀h' tk us,h'.IsStrIter it "str_ascii_iterator" x t (i+n)->Heap.SameBut it s.heap h'->Vals (((Dj x).drop i).take n) us->Q us {s with heap:=h',toks:=tk})->wpAny (model prog w) A (draw (.ref it) n) Q E s
 |0,i,s,Q,hit,_,hQ=>by
  show wpAny _ _ (pure []) Q E s
  exact wpAny_pure (hQ s.heap s.toks [] hit (Heap.SameBut.refl ..) (by simpa using Paired.nil))
 |n+1,i,s,Q,hit,hle,hQ=>by
  have hlt:i<x.cps.size:=by lia
  show wpAny _ _ (pyNext (.ref it)>>=_) Q E s
  refine wpAny_bind (wpAny_pyNext_ascii_item hit (c:=x.cps[i]) (by simp[hlt]) fun h₁ hit₁ hs₁=>?_)
  refine wpAny_bind (wpAny_holding (Ah n (i+1) _ _ hit₁ (by lia) fun h₂ tk us hit₂ hs₂ hv=>wpAny_pure ?_))
  have hd:(Dj x).drop i=V.str ⟨#[x.cps[i]]⟩::(Dj x).drop (i+1):=by
   have hl:i<(Dj x).length:=by simp[Dj,hlt]
   rw[List.drop_eq_getElem_cons hl];simp[Dj]
  refine hQ h₂ tk _ (by rw[show i+(n+1)=i+1+n by lia];exact hit₂) (hs₁.trans hs₂) ?_
  rw[hd,List.take_succ_cons]
  exact .cons ⟨_,rfl⟩ hv
def Pr {s:Shared}{x:Str}{t:Tok}{Q:List Value->Shared->Prop}(hh:A.handled=none)(ha:x.cps.all (·<128)=true)(hQ:∀h' tk us,Heap.ExtBut s.heap.objs.size s.heap h'->Vals (Dj x) us->Q us {s with heap:=h',toks:=tk}):wpAny (model prog w) A (unpackItems (.str x t) x.cps.size none) Q E s:=by
 unfold unpackItems
 refine wpAny_bind ?_
 ·unfold notIterableAtAll
  refine wpAny_bind (wpAny_specialOf (typeIs_str s x t) PySem.F.slot_str_iter.lookup ?_)
  refine wpAny_pure ?_
  simp only[Bool.false_eq_true,if_false]
  refine wpAny_bind (wpAny_holding (wpAny_pyIter_ascii ha ?_))
  refine wpAny_bind (wpAny_holding (Ah x.cps.size 0 _ _ ⟨_,Heap.get?_push_size _ rfl,rfl,rfl⟩ (by lia) fun h₁ tk us hit₁ hs₁ hv=>?_))
  have hall:List.take x.cps.size (List.drop 0 (Dj x))=Dj x:=by
   rw[List.drop_zero];exact List.take_of_length_le (by simp[Dj])
  rw[hall] at hv
  have hl:us.length=x.cps.size:=by rw[<-hv.length];simp[Dj]
  rw[if_neg (by simp[hl])]
  refine wpAny_bind (wpAny_holding (wpAny_pyNext_ascii_end hh hit₁ (by simp) fun h₂ he₂=>?_))
  simp only[Option.isSome_none,Bool.false_eq_true,if_false]
  refine wpAny_pure (hQ h₂ tk us (fun b o hb e=>he₂ b o hb (hs₁.extBut b o hb (Heap.get?_push_of_some _ e))) hv)
def Nq {s:Shared}{env:Env}{elts:List Expr}{x1}{pos:Pos}{x:Str}{t:Tok}{Q:Unit->Shared->Prop}(hh:A.handled=none)(ha:x.cps.all (·<128)=true)(hn:(assignEach elts env).length=x.cps.size)(hstar:(assignEach elts env).findIdx? (·.1)=none)(h:∀h' tk us,Heap.ExtBut s.heap.objs.size s.heap h'->Vals (Dj x) us->wpAny (model prog w) A (assignInOrder ((assignEach elts env).map (·.2)) us) Q E {s with heap:=h',toks:=tk}):
  wpAny (model prog w) A (assign (.Tuple elts x1 pos) env (.str x t)) Q E s:=by
 rw[assign_Tuple]
 refine wpAny_bind (wpAny_standAt ?_)
 unfold unpack
 rw[hn,hstar]
 exact wpAny_bind (wpAny_holding (Pr hh ha h))
end
section
variable {X:Cx}{pos:Pos}
def Zka (K:PySem.W.Frag)(n:Nat)(t:Zfx):TG:=fun v σ H Q=>(∃a xs,v=.ref a/\(SqT K H a xs\/SqL K H a xs)/\xs.length=n/\t xs σ H Q)\/∃x:Str,v=.str x/\x.cps.all (·<128)=true/\x.cps.size=n/\t (Dj x) σ H Q
def Zay {es:List Expr}{k:Nat}{t:Zfx}{n:Nat}(hc:X.calm=true)(h:Zjj X es t)(hn:(assignEach es X.env).length=n:=by rfl)(hst:(assignEach es X.env).findIdx? (·.1)=none:=by rfl):PG X (.Tuple es k pos) (Zka X.K n t):=by
 intro pins s σ H v u Q I r hw
 rcases hw with⟨a,xs,e1,hq,hl,hw⟩|⟨x,e1,ha,hl,hw⟩
 case inr=>
  subst e1
  obtain⟨tk,rfl⟩:=(show ∃t,u=Value.str x t from r)
  refine Nq (I.ok.hd hc) ha (by rw[hn,hl]) hst fun h' tk us hx hv=>?_
  have I1:Inv X pins σ H {s with heap:=h',toks:=tk}:=I.kept (t':=tk) fun b o e=>hx b o (Nat.ne_of_lt (Heap.lt_size e)) e
  exact h pins _ σ H (Dj x) _ Q I1 hv hw
 subst e1
 cases r
 rcases hq with hq|hq
 ·obtain⟨its,rv,ht,hz⟩:=I.tuple hq
  refine assign_Tuple_tuple (I.ok.hd hc) ht (by simp[hn,<-hl,rv.length]) hst fun h' hx=>?_
  have I1:Inv X pins σ H {s with heap:=h'}:=I.kept (t':=s.toks) fun b o e=>hx b o (Nat.ne_of_lt (Heap.lt_size e)) e
  exact h pins _ σ H xs _ Q I1 (by simpa using rv) hw
 ·obtain⟨its,rv,ht,hz⟩:=I.list hq
  refine Gj (I.ok.hd hc) ht.isList (by simp[hn,<-hl,rv.length]) hst fun h' hx=>?_
  have I1:Inv X pins σ H {s with heap:=h'}:=I.kept (t':=s.toks) fun b o e=>hx b o (Nat.ne_of_lt (Heap.lt_size e)) e
  exact h pins _ σ H xs _ Q I1 (by simpa using rv) hw
end
def Zhu (X:Cx)(tg:Expr)(g:D->Zi->M Zi):Prop:=
 ∃t:TG,PG X tg t/\∀(H0:Hp) (B:Addr->Prop) (Hf:Hp) (sd:Zi) (σ:L2.St) (H:Hp) (v:V) (d:D) (sd':Zi) (Q:L2.St->Hp->Prop),SR X.K H0 B Hf sd σ H->Rep X.K Hf d v->g d sd=.ok sd' ->
  (∀σ',SR X.K H0 B Hf sd' σ' H->Q σ' H)->t v σ H Q
def Zec (X:Cx)(ts:List Expr)(g:List D->Zi->M Zi):Prop:=
 ∃t:Zfx,Zjj X ts t/\∀(H0:Hp) (B:Addr->Prop) (Hf:Hp) (sd:Zi) (σ:L2.St) (H:Hp) (vs:List V) (ds:List D) (sd':Zi) (Q:L2.St->Hp->Prop),SR X.K H0 B Hf sd σ H->Reps X.K Hf ds vs->g ds sd=.ok sd' ->
  (∀σ',SR X.K H0 B Hf sd' σ' H->Q σ' H)->t vs σ H Q
section
variable {X:Cx}{E:XK}{pos:Pos}{a b:Expr}
def Xf (i:Nat)(d:D)(sd:Zi):M Zi:=.ok (sd.set i (some (.im d)))
def Z7 (i:Nat){x:Str}(hN:X.N.Nodup)(hi:X.N[i]?=some x:=by rfl)(hx:Zde X.env.scope x:=by trivial)(hf:X.fn x=true\/X.env.scope.names.lookup x=some .local:=by first|exact .inl rfl|exact .inr rfl|assumption):
  Zhu X (.Name x pos) (Xf i):=by
 refine⟨_,P5 hN hi hx hf,fun H0 B Hf sd σ H v d sd' Q sr r e h=>?_⟩
 cases e
 exact h _ (sr.set_im i r)
def Ve:List D->Zi->M Zi
 |[],sd=>.ok sd
 |_,_=>.bad
def Q0 (g:D->Zi->M Zi)(gs:List D->Zi->M Zi):List D->Zi->M Zi
 |d::ds,sd=>(g d sd).bind fun sd'=>gs ds sd'
 |_,_=>.bad
def Kz:Zec X [] Ve:=by
 refine⟨_,Em,fun H0 B Hf sd σ H vs ds sd' Q sr r e h=>?_⟩
 cases ds with
 |nil=>cases e;exact⟨reps_nil.mp r,h σ sr⟩
 |cons d ds=>cases e
def Q6 {es:List Expr}{g:D->Zi->M Zi}{gs:List D->Zi->M Zi}(h1:Zhu X a g)(h2:Zec X es gs)(hs:(assignEach (a::es) X.env).map (·.2)=assign a X.env::(assignEach es X.env).map (·.2):=by rfl):Zec X (a::es) (Q0 g gs):=by
 obtain⟨t,p,q⟩:=h1
 obtain⟨t2,p2,q2⟩:=h2
 refine⟨_,Rf p p2 hs,fun H0 B Hf sd σ H vs ds sd' Q sr r e h=>?_⟩
 cases ds with
 |nil=>cases e
 |cons d ds=>
  obtain⟨v,vr,rfl,rv,rr⟩:=reps_cons.mp r
  cases e1:g d sd with
  |ok sd1=>
   have e':gs ds sd1=.ok sd':=by
    have e:(g d sd).bind (fun sd'=>gs ds sd')=.ok sd':=e
    rw[e1] at e
    exact e
   exact⟨v,vr,rfl,q H0 B Hf sd σ H v d sd1 _ sr rv e1 fun σ1 sr1=>q2 H0 B Hf sd1 σ1 H vr ds sd' Q sr1 rr e' h⟩
  |ex x=>have e:(g d sd).bind (fun sd'=>gs ds sd')=.ok sd':=e;rw[e1] at e;cases e
  |bad=>have e:(g d sd).bind (fun sd'=>gs ds sd')=.ok sd':=e;rw[e1] at e;cases e
def K0 (n:Nat)(gs:List D->Zi->M Zi):D->Zi->M Zi
 |.tup ds,sd=>if ds.length=n then gs ds sd else .bad
 |.lst ds,sd=>if ds.length=n then gs ds sd else .bad
 |.str x,sd=>if x.cps.size=n/\x.cps.all (·<128)=true then gs (x.cps.toList.map fun c=>.str ⟨#[c]⟩) sd else .bad
 |_,_=>.bad
theorem Ai {K:PySem.W.Frag}{H:Hp}:∀l:List Nat,Reps K H (l.map fun c=>D.str ⟨#[c]⟩) (l.map fun c=>V.str ⟨#[c]⟩)
 |[]=>Reps.nil
 |_::l=>Reps.cons (rep_str.mpr rfl) (Ai l)
def Ud {es:List Expr}{k:Nat}{gs:List D->Zi->M Zi}{n:Nat}(hc:X.calm=true)(h:Zec X es gs)(hn:(assignEach es X.env).length=n:=by rfl)(hst:(assignEach es X.env).findIdx? (·.1)=none:=by rfl):Zhu X (.Tuple es k pos) (K0 n gs):=by
 obtain⟨t,p,q⟩:=h
 refine⟨_,Zay hc p hn hst,fun H0 B Hf sd σ H v d sd' Q sr r e h=>?_⟩
 unfold K0 at e
 split at e
 ·rename_i ds
  split at e
  ·rename_i hl
   obtain⟨a,xs,rfl,ha,hr⟩:=Qm r
   exact .inl ⟨a,xs,rfl,.inl (Same.seqT sr.sub ha),by rw[<-hr.length];exact hl,q H0 B Hf sd σ H xs ds sd' Q sr hr e h⟩
  ·cases e
 ·rename_i ds
  split at e
  ·rename_i hl
   obtain⟨a,xs,rfl,ha,hr⟩:=rep_lst.mp r
   exact .inl ⟨a,xs,rfl,.inr (sr.sub.seq ha),by rw[<-hr.length];exact hl,q H0 B Hf sd σ H xs ds sd' Q sr hr e h⟩
  ·cases e
 ·rename_i x
  split at e
  ·rename_i hl
   exact .inr ⟨x,rep_str.mp r,hl.2,hl.1,q H0 B Hf sd σ H (Dj x) _ sd' Q sr (Ai x.cps.toList) e h⟩
  ·cases e
 ·cases e
def Ps (f:Zi->M D)(g:D->Zi->M Zi)(sd:Zi):M O:=(f sd).bind fun d=>match g d sd with
 |.ok sd'=>.ok (.nx sd')
 |_=>.bad
def Gk {e tg:Expr}{f:Zi->M D}{g:D->Zi->M Zi}(h:Xo X E e f)(hg:Zhu X tg g)(hs:swapsWithSole [tg] e pos.line X.env=pure false:=by rfl)(hw:swappedStores [tg] e X.env=pure none:=by rfl)(h1:(assignEach [tg] X.env).map (·.2)=[assign tg X.env]:=by rfl):Tf X E (.Assign [tg] e pos) (Ps f g):=by
 obtain⟨t,p,q⟩:=h
 obtain⟨tg',pg,qg⟩:=hg
 refine⟨_,Zg2 p pg hs hw h1,fun H0 B Hf sd σ H D sr h=>?_⟩
 refine q H0 B Hf sd σ H _ sr (PoS.bind sr h fun d v Hf1 H1 _ g1 sr1 rv h1=>?_)
 split at h1
 ·rename_i sd' e1
  exact qg H0 B Hf1 sd σ H1 v d sd' _ sr1 rv e1 fun σ' sr'=>h1 σ' Hf1 H1 (Same.refl _) sr'
 ·exact h1.elim
def Mo (i j:Nat)(fs:Zi->M (List D))(sd:Zi):M O:=(fs sd).bind fun ds=>match ds with
 |[d,e]=>.ok (.nx ((sd.set i (some (.im d))).set j (some (.im e))))
 |_=>.bad
def Ez (i j:Nat){x y:Str}{fs:Zi->M (List D)}{px py pt:Pos}{kt k2 pt2}(hc:X.calm=true)(hN:X.N.Nodup)(ha:Bz X E [a,b] fs)(hw:swappedStores [.Tuple [.Name x px,.Name y py] kt pt] (.Tuple [a,b] k2 pt2) X.env=pure (some [x,y]))(hi:X.N[i]?=some x:=by rfl)(hj:X.N[j]?=some y:=by rfl)(hij:i≠j:=by decide)(hx:X.env.scope.names.lookup x=some .local:=by rfl)(hy:X.env.scope.names.lookup y=some .local:=by rfl)(hs:swapsWithSole [.Tuple [.Name x px,.Name y py] kt pt] (.Tuple [a,b] k2 pt2) pos.line X.env=pure false:=by rfl):
  Tf X E (.Assign [.Tuple [.Name x px,.Name y py] kt pt] (.Tuple [a,b] k2 pt2) pos) (Mo i j fs):=by
 obtain⟨t,p,q⟩:=ha
 refine⟨_,Zg3 hc hN hi hj hij hx hy p hw hs,fun H0 B Hf sd σ H D sr h=>?_⟩
 refine q H0 B Hf sd σ H _ sr (PoS.bind sr h fun ds vs Hf1 H1 _ g1 sr1 rs h1=>?_)
 split at h1
 ·rename_i d e
  obtain⟨v,w,rfl,rv,rw'⟩:=Zaw rs
  exact⟨v,w,rfl,h1 _ Hf1 H1 (Same.refl _) ((sr1.set_im i rv).set_im j rw')⟩
 ·exact h1.elim
def S.toD:S->M D
 |.im d=>.ok d
 |.ow ds=>.ok (.lst ds)
 |.od _=>.bad
 |.dk _=>.bad
 |.xc _=>.bad
 |.fn _=>.bad
 |.ob _ _ _=>.bad
 |.fl _ _ _=>.bad
def B1 (K:PySem.W.Frag)(F:List D->M S):Sp:=fun vs H Q _=>∃Hf ds s,Same Hf H/\Reps K Hf ds vs/\F ds=.ok s/\∀v Hf' H',Gr Hf H Hf' H'->RS K H Hf' H' s v->Q v H'
def Nr (r:M O):M S:=r.bind fun o=>match o with
 |.rt s=>.ok s
 |.nx _=>.ok (.im .non)
 |_=>.bad
def Ue (n m:Nat)(f:Zi->M O)(ds:List D):M S:=if ds.length=n then Nr (f (ds.map (fun d=>some (S.im d))++List.replicate m none)) else .bad
def Zaz {K:PySem.W.Frag}{N:List Str}{Hf H:Hp}{ds:List D}{vs:List V}{m:Nat}(e:Same Hf H)(r:Reps K Hf ds vs)(hN:N.length=ds.length+m):
  SR K H (fun a=>Lv H a/\Hf a=none) Hf (ds.map (fun d=>some (S.im d))++List.replicate m none) (L2.X6 N vs) H where
 sub:=e
 all:=Same.refl _
 ban:=fun _ h=>h.2
 bt:=fun _ h=>h.1
 len:=by
  unfold L2.X6
  have:=r.length
  simp only[List.length_append,List.length_map,List.length_replicate]
  lia
 imS:=fun i d hi hz=>by
  unfold L2.X6
  by_cases hl:i<ds.length
  ·rw[List.getElem?_append_left (by simpa using hl),List.getElem?_map] at hi
   cases q:ds[i]? with
   |none=>rw[q] at hi;cases hi
   |some d'=>
    rw[q] at hi
    cases hi
    obtain⟨v,e1,e2⟩:=r.get q
    refine⟨v,?_,e2⟩
    have:i<vs.length:=(List.getElem?_eq_some_iff.mp e1).1
    rw[List.getElem?_append_left (by simpa using this),List.getElem?_map,e1]
    rfl
  ·rw[List.getElem?_append_right (by simpa using hl),List.getElem?_replicate] at hi
   split at hi<;>cases hi
 ow:=fun i t hi ho=>by
  by_cases hl:i<ds.length
  ·rw[List.getElem?_append_left (by simpa using hl),List.getElem?_map] at hi
   cases q:ds[i]? with
   |none=>rw[q] at hi;cases hi
   |some d'=>rw[q] at hi;cases hi;cases ho
  ·rw[List.getElem?_append_right (by simpa using hl),List.getElem?_replicate] at hi
   split at hi<;>cases hi
 sep:=fun i j t _ p _ hi ho _ _ _ _=>by
  by_cases hl:i<ds.length
  ·rw[List.getElem?_append_left (by simpa using hl),List.getElem?_map] at hi
   cases q:ds[i]? with
   |none=>rw[q] at hi;cases hi
   |some d'=>rw[q] at hi;cases hi;cases ho
  ·rw[List.getElem?_append_right (by simpa using hl),List.getElem?_replicate] at hi
   split at hi<;>cases hi
def Jl {P:Program}{w:World}{K:PySem.W.Frag}{mg:Str->Option Value}{base:Heap}{x qual:Str}{st:Stmt}{f:Addr}{fd:FuncData}{N ps:List Str}{k m n:Nat}{fb:Zi->M O}(F:Fun K x qual st f fd)(sc:FnScope N ps (Zj st))(hn:ps.length=n)(hN:N.length=n+m)(hbody:∀(cdv:Value) (A:Around) (outer:List Env) (s:Shared) (H:Hp) (E:XK),Room k (A.deeper (envOfC qual (Zj st) s.heap.objs.size f cdv)) ->
   Nl (Kh Y2 P w K mg base N qual (Zj st) f cdv A outer s H E).nox E0 (Xj st) fb):FnOk P w K mg base Y2 (k+1) f fd ps (B1 K (Ue n m fb)):=by
 refine F.ok sc (fun vs H Q E h=>?_) (fun cdv A outer s H vs Q E hr h=>?_)
 ·obtain⟨Hf,ds,s,e,r,hF,_⟩:=h
  unfold Ue at hF
  split at hF
  ·rename_i hl
   rw[<-r.length,hl,hn]
  ·cases hF
 ·obtain⟨Hf,ds,s',e,r,hF,q⟩:=h
  obtain⟨t,p,qt⟩:=hbody cdv A outer s H E hr
  unfold Ue at hF
  split at hF
  ·rename_i hl
   refine⟨t,p,qt H _ Hf _ (L2.X6 N vs) H _ (Zaz (N:=N) (m:=m) e r (by lia)) ?_⟩
   generalize fb (List.map (fun d=>some (S.im d)) ds++List.replicate m none)=ro at hF
   have back:∀{v:V}{Hf' H':Hp}{s:DL.S},Same Hf Hf'->Fin' H (fun a=>Lv H a/\Hf a=none) Hf' H'->RS K H Hf' H' s v->s=s'->Q v H':=fun {v Hf' H' s} e1 e2 e3 e4=>by
    subst e4
    exact q v Hf' H' ⟨e1,e2.sub,e2.all,fun a h1 h2=>e2.ban a ⟨h1,h2⟩⟩ e3
   cases ro with
   |ok o=>
    cases o with
    |rt s2=>
     have e':s2=s':=by cases hF;rfl
     exact fun v Hf' H' e1 e2 e3=>back e1 e2 e3 e'
    |nx sd'=>
     have e':DL.S.im .non=s':=by cases hF;rfl
     exact fun σ' Hf' H' e1 sr'=>back (v:=.non) (s:=DL.S.im .non) e1 sr'.fin (show Rep K Hf' .non .non from rep_non.mpr rfl) e'
    |bk sd'=>cases hF
    |ct sd'=>cases hF
   |ex x=>cases hF
   |bad=>cases hF
  ·cases hF
def Zv (F:List D->M S)(fs:Zi->M (List D))(sd:Zi):M D:=(fs sd).bind fun ds=>match F ds with
 |.ok s=>s.toD
 |_=>.bad
def Jd {k:Nat}{f:Addr}{fd:FuncData}{ps:List Str}{F:List D->M S}{x:Str}{p:Pos}{es:List Expr}{fs:Zi->M (List D)}(G:FnOk X.prog X.w X.K X.mg X.base Y2 k f fd ps (B1 X.K F))(hr:Room k X.A)(hm:X.mg x=some (.ref f))(hk:PySem.W.keepIn X.K (.ref f)=true)(hb:Binds X.K fd ps [])(ha:Bz X E (a::es) fs)(hg:Gl X x:=by rfl) (hdb:(x==("__debug__":Str))=false:=by decide) (he:starEach (a::es) X.env=(false,eval a X.env)::starEach es X.env:=by rfl) (hpl:(backTo pos (starEach es X.env)).any (·.1)=false:=by rfl):
  Xo X E (.Call (.Name x p) (a::es) [] pos) (Zv F fs):=by
 obtain⟨t,pt,qt⟩:=ha
 refine⟨_,Ua (dvs:=[]) (E:=E0) G hr hg hm hk hb .nil Kx pt hdb he hpl,fun H0 B Hf sd σ H Q sr h=>?_⟩
 refine qt H0 B Hf sd σ H _ sr (Po.bind h fun ds vs Hf1 H1 _ g1 rs h1=>?_)
 split at h1
 ·rename_i s e
  refine⟨Hf1,ds,s,g1.sub,by rw[List.append_nil];exact rs,e,fun v Hf' H' g2 rv=>?_⟩
  cases s with
  |im d=>exact h1 v Hf' H' g2 rv
  |ow es=>
   obtain⟨p,rfl,e1,e2,xs,e3,e4⟩:=rv
   refine h1 _ (upd Hf' p (.lst xs)) H' ⟨g2.fz.trans (Qs e2 _),fun b u q=>?_,g2.all,fun a h1 h2=>?_⟩ (rep_lst.mpr ⟨p,xs,rfl,SqL.of Zu,e4.mono (Qs e2 _)⟩)
   ·by_cases hb:b=p
    ·subst hb;rw[Zu] at q;rw[e3];exact q
    ·rw[Zn hb] at q;exact g2.sub b u q
   ·have:a≠p:=fun z=>h1.nn (z▸e1)
    rw[Zn this];exact g2.ban a h1 h2
  |od kvs=>exact h1.elim
  |dk kvs=>exact h1.elim
  |xc x=>exact h1.elim
  |fn x=>exact h1.elim
  |ob a c r=>exact h1.elim
  |fl a g q=>exact h1.elim
 ·exact h1.elim
end
mutual
def D.eq:D->D->Bool
 |.non,.non=>true
 |.bl a,.bl b=>a==b
 |.bl a,.int b=>(if a then 1 else 0)==b
 |.int a,.bl b=>a==(if b then 1 else 0)
 |.int a,.int b=>a==b
 |.str a,.str b=>a==b
 |.tup xs,.tup ys=>D.eqs xs ys
 |.lst xs,.lst ys=>D.eqs xs ys
 |_,_=>false
def D.eqs:List D->List D->Bool
 |[],[]=>true
 |x::xs,y::ys=>D.eq x y&&D.eqs xs ys
 |_,_=>false
end
mutual
def D.dep:D->Nat
 |.tup ds=>D.deps ds+1
 |.lst ds=>D.deps ds+1
 |_=>0
def D.deps:List D->Nat
 |[]=>0
 |d::ds=>max (D.dep d) (D.deps ds)
end
mutual
theorem D.eq_refl:∀d:D,D.eq d d=true
 |.non=>by rw[D.eq]
 |.bl b=>by rw[D.eq];simp
 |.int i=>by rw[D.eq];simp
 |.str x=>by rw[D.eq];simp
 |.tup ds=>by rw[D.eq];exact D.eqs_refl ds
 |.lst ds=>by rw[D.eq];exact D.eqs_refl ds
theorem D.eqs_refl:∀ds:List D,D.eqs ds ds=true
 |[]=>by rw[D.eqs]
 |d::ds=>by rw[D.eqs,D.eq_refl d,D.eqs_refl ds];rfl
end
theorem D.eqs_all:∀ds es:List D,D.eqs ds es=((List.range (min ds.length es.length)).all (fun j=>D.eq (ds.getD j .non) (es.getD j .non))&&ds.length==es.length)
 |[],[]=>by rw[D.eqs];rfl
 |[],_::_=>by rw[D.eqs];simp;all_goals (intros;simp_all)
 |_::_,[]=>by rw[D.eqs];simp;all_goals (intros;simp_all)
 |d::ds,e::es=>by
  have h:min (d::ds).length (e::es).length=min ds.length es.length+1:=by simp only[List.length_cons];lia
  rw[D.eqs,D.eqs_all ds es,h,List.range_succ_eq_map,List.all_cons,List.all_map,Bool.and_assoc]
  congr 1
  simp only[List.length_cons]
  congr 1
  by_cases q:ds.length=es.length
  ·simp[q]
  ·have q':¬ds.length+1=es.length+1:=by lia
   simp[q]
section
variable {X:Cx}{pins:List (Addr×Obj)}{σ:L2.St}{H:Hp}{s:Shared}
def Za0 (I:Inv X pins σ H s){a:Addr}{xs ys:List V}(h1:SqT X.K H a xs)(h2:SqL X.K H a ys):False:=by
 obtain⟨its,_,⟨o,e,c,_⟩,_⟩:=I.tuple h1
 obtain⟨its2,_,p,_⟩:=I.list h2
 obtain⟨o2,e2,c2,_⟩:=p.isList
 rw[e] at e2
 cases e2
 rw[c] at c2
 exact absurd c2 (by decide)
mutual
theorem Gm (I:Inv X pins σ H s):∀(d d':D) (v:V),Rep X.K H d v->Rep X.K H d' v->d=d'
 |.non,d',v,h1,h2=>by
  rw[rep_non] at h1;subst h1
  cases d' with
  |non=>rfl
  |bl b=>rw[rep_bl] at h2;cases h2
  |int b=>rw[rep_int] at h2;cases h2
  |str b=>rw[rep_str] at h2;cases h2
  |tup b=>rw[rep_tup] at h2;obtain⟨_,_,e,_⟩:=h2;cases e
  |lst b=>rw[rep_lst] at h2;obtain⟨_,_,e,_⟩:=h2;cases e
 |.bl a,d',v,h1,h2=>by
  rw[rep_bl] at h1;subst h1
  cases d' with
  |non=>rw[rep_non] at h2;cases h2
  |bl b=>rw[rep_bl] at h2;cases h2;rfl
  |int b=>rw[rep_int] at h2;cases h2
  |str b=>rw[rep_str] at h2;cases h2
  |tup b=>rw[rep_tup] at h2;obtain⟨_,_,e,_⟩:=h2;cases e
  |lst b=>rw[rep_lst] at h2;obtain⟨_,_,e,_⟩:=h2;cases e
 |.int a,d',v,h1,h2=>by
  rw[rep_int] at h1;subst h1
  cases d' with
  |non=>rw[rep_non] at h2;cases h2
  |bl b=>rw[rep_bl] at h2;cases h2
  |int b=>rw[rep_int] at h2;cases h2;rfl
  |str b=>rw[rep_str] at h2;cases h2
  |tup b=>rw[rep_tup] at h2;obtain⟨_,_,e,_⟩:=h2;cases e
  |lst b=>rw[rep_lst] at h2;obtain⟨_,_,e,_⟩:=h2;cases e
 |.str a,d',v,h1,h2=>by
  rw[rep_str] at h1;subst h1
  cases d' with
  |non=>rw[rep_non] at h2;cases h2
  |bl b=>rw[rep_bl] at h2;cases h2
  |int b=>rw[rep_int] at h2;cases h2
  |str b=>rw[rep_str] at h2;cases h2;rfl
  |tup b=>rw[rep_tup] at h2;obtain⟨_,_,e,_⟩:=h2;cases e
  |lst b=>rw[rep_lst] at h2;obtain⟨_,_,e,_⟩:=h2;cases e
 |.tup ds,d',v,h1,h2=>by
  obtain⟨a,xs,rfl,ha,hr⟩:=Qm h1
  cases d' with
  |non=>rw[rep_non] at h2;cases h2
  |bl b=>rw[rep_bl] at h2;cases h2
  |int b=>rw[rep_int] at h2;cases h2
  |str b=>rw[rep_str] at h2;cases h2
  |tup es=>
   obtain⟨b,ys,e,hb,hr2⟩:=Qm h2
   cases e
   have:=I.tuple_inj ha hb
   subst this
   rw[Rq I ds es xs hr hr2]
  |lst es=>
   obtain⟨b,ys,e,hb,hr2⟩:=rep_lst.mp h2
   cases e
   exact(Za0 I ha hb).elim
 |.lst ds,d',v,h1,h2=>by
  obtain⟨a,xs,rfl,ha,hr⟩:=rep_lst.mp h1
  cases d' with
  |non=>rw[rep_non] at h2;cases h2
  |bl b=>rw[rep_bl] at h2;cases h2
  |int b=>rw[rep_int] at h2;cases h2
  |str b=>rw[rep_str] at h2;cases h2
  |tup es=>
   obtain⟨b,ys,e,hb,hr2⟩:=Qm h2
   cases e
   exact(Za0 I hb ha).elim
  |lst es=>
   obtain⟨b,ys,e,hb,hr2⟩:=rep_lst.mp h2
   cases e
   have:=I.list_inj ha hb
   subst this
   rw[Rq I ds es xs hr hr2]
theorem Rq (I:Inv X pins σ H s):∀(ds es:List D) (vs:List V),Reps X.K H ds vs->Reps X.K H es vs->ds=es
 |[],[],_,_,_=>rfl
 |[],e::es,vs,h1,h2=>by
  rw[reps_nil] at h1;subst h1
  obtain⟨_,_,z,_⟩:=reps_cons.mp h2
  cases z
 |d::ds,[],vs,h1,h2=>by
  rw[reps_nil] at h2;subst h2
  obtain⟨_,_,z,_⟩:=reps_cons.mp h1
  cases z
 |d::ds,e::es,vs,h1,h2=>by
  obtain⟨v,r,rfl,a1,a2⟩:=reps_cons.mp h1
  obtain⟨v',r',z,b1,b2⟩:=reps_cons.mp h2
  cases z
  rw[Gm I d e v a1 b1,Rq I ds es r a2 b2]
end
structure Cm (A:Around) (s:Shared) (u v:Value) (b:Bool):Prop where
 rc:SeqAt.RcAt A s u v b
 ne:SeqAt.RcNeAt A s u v (!b)
 eq:SeqAt.EqAt A s u v b
mutual
theorem Rr (I:Inv X pins σ H s):∀(x y:D) (A:Around) (v w:V) (u1 u2:Value),A.units+x.dep<cLine->Rep X.K H x v->Rep X.K H y w->RelV v u1->RelV w u2->Cm A s u1 u2 (D.eq x y)
 |.non,y,A,v,w,u1,u2,hu,rx,ry,r1,r2=>by
  rw[rep_non] at rx;subst rx
  have r1:u1=Value.none:=r1
  subst r1
  have hu':A.units<cLine:=by lia
  cases y with
  |non=>rw[rep_non] at ry;subst ry;cases (show u2=Value.none from r2);rw[D.eq];exact⟨.none_none,.none_none,.same _⟩
  |bl b=>rw[rep_bl] at ry;subst ry;cases (show u2=Value.bool b from r2);rw[D.eq];exact⟨.none_bool b,.none_bool b,.none_bool b⟩;all_goals (intros;simp_all)
  |int b=>rw[rep_int] at ry;subst ry;obtain⟨t,q⟩:=(show ∃t,u2=Value.int b t from r2);subst q;rw[D.eq];exact⟨.none_int b t,.none_int b t,.none_int b t⟩;all_goals (intros;simp_all)
  |str b=>rw[rep_str] at ry;subst ry;obtain⟨t,q⟩:=(show ∃t,u2=Value.str b t from r2);subst q;rw[D.eq];exact⟨.none_str b t,.none_str b t,.none_str b t⟩;all_goals (intros;simp_all)
  |tup es=>
   obtain⟨p,xs,rfl,hp,hr⟩:=Qm ry
   cases (show u2=Value.ref p from r2)
   obtain⟨its,_,ht,_⟩:=I.tuple hp
   rw[D.eq]
   exact⟨.none_tuple ht hu',.none_tuple ht hu',.none_tuple ht hu'⟩
   all_goals (intros;simp_all)
  |lst es=>
   obtain⟨p,xs,rfl,hp,hr⟩:=rep_lst.mp ry
   cases (show u2=Value.ref p from r2)
   obtain⟨its,_,ht,_⟩:=I.list hp
   rw[D.eq]
   exact⟨.none_list ht.isList hu',.none_list ht.isList hu',.none_list ht.isList hu'⟩
   all_goals (intros;simp_all)
 |.bl a,y,A,v,w,u1,u2,hu,rx,ry,r1,r2=>by
  rw[rep_bl] at rx;subst rx
  have r1:u1=Value.bool a:=r1
  subst r1
  have hu':A.units<cLine:=by lia
  cases y with
  |non=>rw[rep_non] at ry;subst ry;cases (show u2=Value.none from r2);rw[D.eq];exact⟨.bool_none a,.bool_none a,.bool_none a⟩;all_goals (intros;simp_all)
  |bl b=>rw[rep_bl] at ry;subst ry;cases (show u2=Value.bool b from r2);rw[D.eq];exact⟨.bool_bool a b,.bool_bool a b,.bool_bool a b⟩
  |int b=>rw[rep_int] at ry;subst ry;obtain⟨t,q⟩:=(show ∃t,u2=Value.int b t from r2);subst q;rw[D.eq];exact⟨.bool_int a b t,.bool_int a b t,.bool_int a b t⟩
  |str b=>rw[rep_str] at ry;subst ry;obtain⟨t,q⟩:=(show ∃t,u2=Value.str b t from r2);subst q;rw[D.eq];exact⟨.bool_str a b t,.bool_str a b t,.bool_str a b t⟩;all_goals (intros;simp_all)
  |tup es=>
   obtain⟨p,xs,rfl,hp,hr⟩:=Qm ry
   cases (show u2=Value.ref p from r2)
   obtain⟨its,_,ht,_⟩:=I.tuple hp
   rw[D.eq]
   exact⟨.bool_tuple a ht hu',.bool_tuple a ht hu',.bool_tuple a ht hu'⟩
   all_goals (intros;simp_all)
  |lst es=>
   obtain⟨p,xs,rfl,hp,hr⟩:=rep_lst.mp ry
   cases (show u2=Value.ref p from r2)
   obtain⟨its,_,ht,_⟩:=I.list hp
   rw[D.eq]
   exact⟨.bool_list a ht.isList hu',.bool_list a ht.isList hu',.bool_list a ht.isList hu'⟩
   all_goals (intros;simp_all)
 |.int a,y,A,v,w,u1,u2,hu,rx,ry,r1,r2=>by
  rw[rep_int] at rx;subst rx
  obtain⟨t1,q1⟩:=(show ∃t,u1=Value.int a t from r1)
  subst q1
  have hu':A.units<cLine:=by lia
  cases y with
  |non=>rw[rep_non] at ry;subst ry;cases (show u2=Value.none from r2);rw[D.eq];exact⟨.int_none a t1,.int_none a t1,.int_none a t1⟩;all_goals (intros;simp_all)
  |bl b=>rw[rep_bl] at ry;subst ry;cases (show u2=Value.bool b from r2);rw[D.eq];exact⟨.int_bool a t1 b,.int_bool a t1 b,.int_bool a t1 b⟩
  |int b=>rw[rep_int] at ry;subst ry;obtain⟨t,q⟩:=(show ∃t,u2=Value.int b t from r2);subst q;rw[D.eq];exact⟨.int_int a t1 b t,.int_int a t1 b t,.int_int a t1 b t⟩
  |str b=>rw[rep_str] at ry;subst ry;obtain⟨t,q⟩:=(show ∃t,u2=Value.str b t from r2);subst q;rw[D.eq];exact⟨.int_str a t1 b t,.int_str a t1 b t,.int_str a t1 b t⟩;all_goals (intros;simp_all)
  |tup es=>
   obtain⟨p,xs,rfl,hp,hr⟩:=Qm ry
   cases (show u2=Value.ref p from r2)
   obtain⟨its,_,ht,_⟩:=I.tuple hp
   rw[D.eq]
   exact⟨.int_tuple a t1 ht hu',.int_tuple a t1 ht hu',.int_tuple a t1 ht hu'⟩
   all_goals (intros;simp_all)
  |lst es=>
   obtain⟨p,xs,rfl,hp,hr⟩:=rep_lst.mp ry
   cases (show u2=Value.ref p from r2)
   obtain⟨its,_,ht,_⟩:=I.list hp
   rw[D.eq]
   exact⟨.int_list a t1 ht.isList hu',.int_list a t1 ht.isList hu',.int_list a t1 ht.isList hu'⟩
   all_goals (intros;simp_all)
 |.str a,y,A,v,w,u1,u2,hu,rx,ry,r1,r2=>by
  rw[rep_str] at rx;subst rx
  obtain⟨t1,q1⟩:=(show ∃t,u1=Value.str a t from r1)
  subst q1
  have hu':A.units<cLine:=by lia
  cases y with
  |non=>rw[rep_non] at ry;subst ry;cases (show u2=Value.none from r2);rw[D.eq];exact⟨.str_none a t1,.str_none a t1,.str_none a t1⟩;all_goals (intros;simp_all)
  |bl b=>rw[rep_bl] at ry;subst ry;cases (show u2=Value.bool b from r2);rw[D.eq];exact⟨.str_bool a t1 b,.str_bool a t1 b,.str_bool a t1 b⟩;all_goals (intros;simp_all)
  |int b=>rw[rep_int] at ry;subst ry;obtain⟨t,q⟩:=(show ∃t,u2=Value.int b t from r2);subst q;rw[D.eq];exact⟨.str_int a t1 b t,.str_int a t1 b t,.str_int a t1 b t⟩;all_goals (intros;simp_all)
  |str b=>rw[rep_str] at ry;subst ry;obtain⟨t,q⟩:=(show ∃t,u2=Value.str b t from r2);subst q;rw[D.eq];exact⟨.str_str a t1 b t,.str_str a t1 b t,.str_str a t1 b t⟩
  |tup es=>
   obtain⟨p,xs,rfl,hp,hr⟩:=Qm ry
   cases (show u2=Value.ref p from r2)
   obtain⟨its,_,ht,_⟩:=I.tuple hp
   rw[D.eq]
   exact⟨.str_tuple a t1 ht hu',.str_tuple a t1 ht hu',.str_tuple a t1 ht hu'⟩
   all_goals (intros;simp_all)
  |lst es=>
   obtain⟨p,xs,rfl,hp,hr⟩:=rep_lst.mp ry
   cases (show u2=Value.ref p from r2)
   obtain⟨its,_,ht,_⟩:=I.list hp
   rw[D.eq]
   exact⟨.str_list a t1 ht.isList hu',.str_list a t1 ht.isList hu',.str_list a t1 ht.isList hu'⟩
   all_goals (intros;simp_all)
 |.tup ds,y,A,v,w,u1,u2,hu,rx,ry,r1,r2=>by
  rw[D.dep] at hu
  have hu':A.units<cLine:=by lia
  obtain⟨p1,xs1,rfl,hp1,hr1⟩:=Qm rx
  cases (show u1=Value.ref p1 from r1)
  obtain⟨its1,rv1,ht1,_⟩:=I.tuple hp1
  cases y with
  |non=>rw[rep_non] at ry;subst ry;cases (show u2=Value.none from r2);rw[D.eq];exact⟨.tuple_none ht1 hu',.tuple_none ht1 hu',.tuple_none ht1 hu'⟩;all_goals (intros;simp_all)
  |bl b=>rw[rep_bl] at ry;subst ry;cases (show u2=Value.bool b from r2);rw[D.eq];exact⟨.tuple_bool b ht1 hu',.tuple_bool b ht1 hu',.tuple_bool b ht1 hu'⟩;all_goals (intros;simp_all)
  |int b=>rw[rep_int] at ry;subst ry;obtain⟨t,q⟩:=(show ∃t,u2=Value.int b t from r2);subst q;rw[D.eq];exact⟨.tuple_int b t ht1 hu',.tuple_int b t ht1 hu',.tuple_int b t ht1 hu'⟩;all_goals (intros;simp_all)
  |str b=>rw[rep_str] at ry;subst ry;obtain⟨t,q⟩:=(show ∃t,u2=Value.str b t from r2);subst q;rw[D.eq];exact⟨.tuple_str b t ht1 hu',.tuple_str b t ht1 hu',.tuple_str b t ht1 hu'⟩;all_goals (intros;simp_all)
  |tup es=>
   obtain⟨p2,xs2,rfl,hp2,hr2⟩:=Qm ry
   cases (show u2=Value.ref p2 from r2)
   obtain⟨its2,rv2,ht2,_⟩:=I.tuple hp2
   have l1:its1.toArray.size=ds.length:=by rw[List.size_toArray,<-rv1.length,<-hr1.length]
   have l2:its2.toArray.size=es.length:=by rw[List.size_toArray,<-rv2.length,<-hr2.length]
   have items:=Mp I ds es A.in1 xs1 xs2 its1 its2 (by show A.units+1+_<_;lia) hr1 hr2 rv1 rv2
   have he:∀j (h1:j<its1.toArray.size) (h2:j<its2.toArray.size),SeqAt.EqAt A.in1 s its1.toArray[j] its2.toArray[j] (D.eq (ds.getD j .non) (es.getD j .non)):=fun j h1 h2=>by
    refine items j _ _ _ _ ?_ ?_ ?_ ?_
    ·rw[List.getD_eq_getElem?_getD,List.getElem?_eq_getElem (by lia)];simp
    ·rw[List.getD_eq_getElem?_getD,List.getElem?_eq_getElem (by lia)];simp
    ·simp
    ·simp
   have rc:=SeqAt.RcAt.tuples ht1 ht2 hu' he
   have ne:=SeqAt.RcNeAt.tuples ht1 ht2 hu' he
   rw[l1,l2,<-D.eqs_all] at rc ne
   rw[D.eq]
   refine⟨rc,ne,?_⟩
   by_cases hpp:p1=p2
   ·subst hpp
    have:=Gm I _ _ _ rx ry
    cases this
    rw[D.eqs_refl]
    exact .same _
   ·exact .of_refs hpp rc
  |lst es=>
   obtain⟨p2,xs2,rfl,hp2,hr2⟩:=rep_lst.mp ry
   cases (show u2=Value.ref p2 from r2)
   obtain⟨its2,rv2,ht2,_⟩:=I.list hp2
   rw[D.eq]
   exact⟨.tuple_list ht1 ht2.isList hu',.tuple_list ht1 ht2.isList hu',.tuple_list ht1 ht2.isList hu'⟩
   all_goals (intros;simp_all)
 |.lst ds,y,A,v,w,u1,u2,hu,rx,ry,r1,r2=>by
  rw[D.dep] at hu
  have hu':A.units<cLine:=by lia
  obtain⟨p1,xs1,rfl,hp1,hr1⟩:=rep_lst.mp rx
  cases (show u1=Value.ref p1 from r1)
  obtain⟨its1,rv1,pl1,_⟩:=I.list hp1
  have ht1:=pl1.isList
  cases y with
  |non=>rw[rep_non] at ry;subst ry;cases (show u2=Value.none from r2);rw[D.eq];exact⟨.list_none ht1 hu',.list_none ht1 hu',.list_none ht1 hu'⟩;all_goals (intros;simp_all)
  |bl b=>rw[rep_bl] at ry;subst ry;cases (show u2=Value.bool b from r2);rw[D.eq];exact⟨.list_bool b ht1 hu',.list_bool b ht1 hu',.list_bool b ht1 hu'⟩;all_goals (intros;simp_all)
  |int b=>rw[rep_int] at ry;subst ry;obtain⟨t,q⟩:=(show ∃t,u2=Value.int b t from r2);subst q;rw[D.eq];exact⟨.list_int b t ht1 hu',.list_int b t ht1 hu',.list_int b t ht1 hu'⟩;all_goals (intros;simp_all)
  |str b=>rw[rep_str] at ry;subst ry;obtain⟨t,q⟩:=(show ∃t,u2=Value.str b t from r2);subst q;rw[D.eq];exact⟨.list_str b t ht1 hu',.list_str b t ht1 hu',.list_str b t ht1 hu'⟩;all_goals (intros;simp_all)
  |tup es=>
   obtain⟨p2,xs2,rfl,hp2,hr2⟩:=Qm ry
   cases (show u2=Value.ref p2 from r2)
   obtain⟨its2,rv2,ht2,_⟩:=I.tuple hp2
   rw[D.eq]
   exact⟨.list_tuple ht1 ht2 hu',.list_tuple ht1 ht2 hu',.list_tuple ht1 ht2 hu'⟩
   all_goals (intros;simp_all)
  |lst es=>
   obtain⟨p2,xs2,rfl,hp2,hr2⟩:=rep_lst.mp ry
   cases (show u2=Value.ref p2 from r2)
   obtain⟨its2,rv2,pl2,_⟩:=I.list hp2
   have ht2:=pl2.isList
   have l1:its1.toArray.size=ds.length:=by rw[List.size_toArray,<-rv1.length,<-hr1.length]
   have l2:its2.toArray.size=es.length:=by rw[List.size_toArray,<-rv2.length,<-hr2.length]
   have items:=Mp I ds es A.in1 xs1 xs2 its1 its2 (by show A.units+1+_<_;lia) hr1 hr2 rv1 rv2
   have he:∀j (h1:j<its1.toArray.size) (h2:j<its2.toArray.size),SeqAt.EqAt A.in1 s its1.toArray[j] its2.toArray[j] (D.eq (ds.getD j .non) (es.getD j .non)):=fun j h1 h2=>by
    refine items j _ _ _ _ ?_ ?_ ?_ ?_
    ·rw[List.getD_eq_getElem?_getD,List.getElem?_eq_getElem (by lia)];simp
    ·rw[List.getD_eq_getElem?_getD,List.getElem?_eq_getElem (by lia)];simp
    ·simp
    ·simp
   have both:SeqAt.RcAt A s (.ref p1) (.ref p2) (D.eqs ds es)/\SeqAt.RcNeAt A s (.ref p1) (.ref p2) (!D.eqs ds es):=by
    by_cases hl:ds.length=es.length
    ·have rc:=SeqAt.RcAt.lists ht1 ht2 (by lia) hu' he
     have ne:=SeqAt.RcNeAt.lists ht1 ht2 (by lia) hu' he
     have e:D.eqs ds es=(List.range its1.toArray.size).all fun j=>D.eq (ds.getD j .non) (es.getD j .non):=by
      rw[D.eqs_all,l1,<-hl,Nat.min_self];simp
     rw[e]
     exact⟨rc,ne⟩
    ·have e:D.eqs ds es=false:=by rw[D.eqs_all];simp[hl]
     rw[e]
     have hs:(its1.toArray.size != its2.toArray.size)=true:=by rw[l1,l2];simpa using hl
     exact⟨.lists_lengths ht1 ht2 hs hu',.lists_lengths ht1 ht2 hs hu'⟩
   rw[D.eq]
   refine⟨both.1,both.2,?_⟩
   by_cases hpp:p1=p2
   ·subst hpp
    have:=Gm I _ _ _ rx ry
    cases this
    rw[D.eqs_refl]
    exact .same _
   ·exact .of_refs hpp both.1
theorem Mp (I:Inv X pins σ H s):∀(ds es:List D) (A:Around) (vs ws:List V) (us1 us2:List Value),A.units+D.deps ds<cLine->Reps X.K H ds vs->Reps X.K H es ws->Vals vs us1->Vals ws us2 ->
  ∀(j:Nat) (d e:D) (u1 u2:Value),ds[j]?=some d->es[j]?=some e->us1[j]?=some u1->us2[j]?=some u2->SeqAt.EqAt A s u1 u2 (D.eq d e)
 |[],_,_,_,_,_,_,_,_,_,_,_,j,_,_,_,_,h,_,_,_=>by simp at h
 |_::_,[],_,_,_,_,_,_,_,_,_,_,j,_,_,_,_,_,h,_,_=>by simp at h
 |d0::ds,e0::es,A,vs,ws,us1,us2,hu,r1,r2,v1,v2,j,d,e,u1,u2,h1,h2,h3,h4=>by
  rw[D.deps] at hu
  obtain⟨x,xr,rfl,a1,a2⟩:=reps_cons.mp r1
  obtain⟨y,yr,rfl,b1,b2⟩:=reps_cons.mp r2
  cases v1 with
  |cons c1 c2=>
   cases v2 with
   |cons d1 d2=>
    cases j with
    |zero=>
     simp at h1 h2 h3 h4
     subst h1 h2 h3 h4
     exact(Rr I d0 e0 A x y _ _ (by lia) a1 b1 c1 d1).eq
    |succ j=>
     simp at h1 h2 h3 h4
     exact Mp I ds es A xr yr _ _ (by lia) a2 b2 c2 d2 j d e u1 u2 h1 h2 h3 h4
end
end
section
variable {X:Cx}{E:XK}{pos:Pos}{a b:Expr}
def Xg (x y:D):M D:=if x.dep<=60 then .ok (.bl (D.eq x y)) else .bad
def W0 (x y:D):M D:=if x.dep<=60 then .ok (.bl (!D.eq x y)) else .bad
def Yc (hu:X.A.units+64<cLine):P6 X E (compareOp .Eq) Xg:=by
 refine⟨fun x y H Q=>∃dx dy,Rep X.K H dx x/\Rep X.K H dy y/\dx.dep<=60/\Q (.bl (D.eq dx dy)) H,fun pins s σ H x y v u Q I rx ry h=>?_,fun Hf H x y dx dy Q e rx ry q=>?_⟩
 ·obtain⟨dx,dy,h1,h2,h3,q⟩:=h
  exact(Rr I dx dy X.A x y v u (by lia) h1 h2 rx ry).rc _ _ _ _ ⟨.bl _,H,I,rfl,q⟩
 ·unfold Xg at q
  split at q
  ·rename_i hd
   exact⟨dx,dy,rx.mono e,ry.mono e,hd,Po.ret e q (rep_bl.mpr rfl)⟩
  ·exact q.elim
def U7 (hu:X.A.units+64<cLine):P6 X E (compareOp .NotEq) W0:=by
 refine⟨fun x y H Q=>∃dx dy,Rep X.K H dx x/\Rep X.K H dy y/\dx.dep<=60/\Q (.bl (!D.eq dx dy)) H,fun pins s σ H x y v u Q I rx ry h=>?_,fun Hf H x y dx dy Q e rx ry q=>?_⟩
 ·obtain⟨dx,dy,h1,h2,h3,q⟩:=h
  exact(Rr I dx dy X.A x y v u (by lia) h1 h2 rx ry).ne _ _ _ _ ⟨.bl _,H,I,rfl,q⟩
 ·unfold W0 at q
  split at q
  ·rename_i hd
   exact⟨dx,dy,rx.mono e,ry.mono e,hd,Po.ret e q (rep_bl.mpr rfl)⟩
  ·exact q.elim
end
def Znb:D->String
 |.non=>"NoneType"
 |.bl _=>"bool"
 |.int _=>"int"
 |.str _=>"str"
 |.tup _=>"tuple"
 |.lst _=>"list"
def Zlb (T:String):D->Bool
 |.non=>false
 |.bl _=>T=="bool" || T=="int"
 |.int _=>T=="int"
 |.str _=>T=="str"
 |.tup _=>T=="tuple"
 |.lst _=>T=="list"
def Zhv (K:PySem.W.Frag)(d:D){T:String} (hT:T∈["int","bool","tuple","list","str"]):PySem.W.kitOne K (.type (Znb d)) (.type T)=some (Zlb T d):=by
 simp only[List.mem_cons,List.not_mem_nil,or_false] at hT
 rcases hT with rfl|rfl|rfl|rfl|rfl<;>cases d<;>rfl
section
variable {X:Cx}{E:XK}{pos:Pos}{a b:Expr}
def Aj {T:String} (hT:T∈["int","bool","tuple","list","str"]):CallR X (.builtin "isinstance") (fun xs H Q=>∃x d,xs=[x,.ty T]/\Rep X.K H d x/\Q (.bl (Zlb T d)) H):=by
 intro pins s σ H xs us Q I r h
 obtain⟨x,d,rfl,hx,q⟩:=h
 obtain⟨u,w',rfl,r1,r2⟩:=Zaf r
 cases (show w'=Value.type T from r2)
 have e:=Zhv X.K d hT
 have fin:∀tk,EP X pins σ Q (.bool (Zlb T d)) {s with toks:=tk}:=fun tk=>⟨.bl _,H,I.tok _,rfl,q⟩
 cases d with
 |non=>rw[rep_non] at hx;subst hx;cases (show u=Value.none from r1);exact PySem.W.kia_one PySem.W.kitx_none I.kIn True.intro e (fun z=>nomatch z) fin
 |bl y=>rw[rep_bl] at hx;subst hx;cases (show u=Value.bool y from r1);exact PySem.W.kia_one PySem.W.kitx_bool I.kIn True.intro e (fun z=>nomatch z) fin
 |int y=>rw[rep_int] at hx;subst hx;obtain⟨t,z⟩:=(show ∃t,u=Value.int y t from r1);subst z;exact PySem.W.kia_one PySem.W.kitx_int I.kIn True.intro e (fun z=>nomatch z) fin
 |str y=>rw[rep_str] at hx;subst hx;obtain⟨t,z⟩:=(show ∃t,u=Value.str y t from r1);subst z;exact PySem.W.kia_one PySem.W.kitx_str I.kIn True.intro e (fun z=>nomatch z) fin
 |tup ds=>
  obtain⟨p,ys,rfl,hp,hr⟩:=Qm hx
  cases (show u=Value.ref p from r1)
  obtain⟨its,_,⟨o,h1,h2,_⟩,_⟩:=I.tuple hp
  exact PySem.W.kia_one PySem.W.kitx_tuple I.kIn ⟨o,h1,h2⟩ e (fun z=>nomatch z) fin
 |lst ds=>
  obtain⟨p,ys,rfl,hp,hr⟩:=rep_lst.mp hx
  cases (show u=Value.ref p from r1)
  obtain⟨its,_,pl,_⟩:=I.list hp
  obtain⟨o,h1,h2,_⟩:=pl.isList
  exact PySem.W.kia_one PySem.W.kitx_list I.kIn ⟨o,h1,h2⟩ e (fun z=>nomatch z) fin
def O4 (T:String)(f:Zi->M D)(sd:Zi):M D:=(f sd).bind fun d=>.ok (.bl (Zlb T d))
def Xz (T:String){p p2:Pos}{f:Zi->M D} (hg:Gl X "isinstance") (hm:X.mg "isinstance"=none) (hmT:X.mg (Str.ofString T)=none) (hgT:Gl X (Str.ofString T)) (hvT:bootBuiltins (Str.ofString T)=some (.type T)) (h:Xo X E a f)
  (hT:T∈["int","bool","tuple","list","str"]:=by decide) (hnT:(Str.ofString T) ≠ "__name__":=by decide) (hdT:((Str.ofString T)==("__debug__":Str))=false:=by decide)
  (he:starEach [a,.Name (Str.ofString T) p2] X.env=(false,eval a X.env)::starEach [.Name (Str.ofString T) p2] X.env:=by rfl) (he2:starEach [.Name (Str.ofString T) p2] X.env=(false,eval (.Name (Str.ofString T) p2) X.env)::starEach [] X.env:=by rfl)
  (hpl:(backTo pos (starEach [.Name (Str.ofString T) p2] X.env)).any (·.1)=false:=by rfl) (hv:bootBuiltins "isinstance"=some (.builtin "isinstance"):=by rfl):
  Xo X E (.Call (.Name "isinstance" p) [a,.Name (Str.ofString T) p2] [] pos) (O4 T f):=by
 obtain⟨t,pt,qt⟩:=h
 refine⟨_,B9 (Aj hT) hg hm hv (Qo pt (Qo (Zdl (v:=.ty T) hgT hmT hvT rfl hnT hdT) X7 he2) he) (by decide) (by decide) he hpl,fun H0 B Hf sd σ H Q sr h=>?_⟩
 refine qt H0 B Hf sd σ H _ sr (Po.bind h fun d v Hf1 H1 _ g1 rv h1=>?_)
 exact⟨v,d,rfl,Rep.mono g1.sub rv,Po.ret (R:=rV X.K) g1.sub h1 (rep_bl.mpr rfl)⟩
def Jp:List D->Option (List Bool)
 |[]=>some []
 |.bl b::r=>(Jp r).map (b::·)
 |_::_=>none
theorem Uf {K:PySem.W.Frag}{H:Hp}:∀{ds:List D}{bs:List Bool}{xs:List V},Jp ds=some bs->Reps K H ds xs->xs=bs.map V.bl
 |[],bs,xs,e,r=>by
  rw[reps_nil.mp r]
  cases e
  rfl
 |.bl b::ds,bs,xs,e,r=>by
  obtain⟨x,t,rfl,h1,h2⟩:=reps_cons.mp r
  unfold Jp at e
  cases q:Jp ds with
  |none=>rw[q] at e;cases e
  |some cs=>
   rw[q] at e
   cases e
   rw[rep_bl.mp h1,Uf q h2]
   rfl
 |.non::_,_,_,e,_=>by cases e
 |.int _::_,_,_,e,_=>by cases e
 |.str _::_,_,_,e,_=>by cases e
 |.tup _::_,_,_,e,_=>by cases e
 |.lst _::_,_,_,e,_=>by cases e
def E2 {bs:List Bool}:∀{us:List Value},Vals (bs.map V.bl) us->us=bs.map Value.bool:=by
 induction bs with
 |nil=>intro us r;cases r;rfl
 |cons b bs ih=>
  intro us r
  cases r with
  |cons r1 r2=>rw[ih r2];cases (show _=Value.bool b from r1);rfl
def Dk (bs:List Bool):((List.range bs.length).all fun i=>(bs[i]?).getD true)=bs.all id:=by
 induction bs with
 |nil=>rfl
 |cons b bs ih=>
  rw[List.length_cons,List.range_succ_eq_map,List.all_cons,List.all_map,List.all_cons]
  have:(((fun i=>((b::bs)[i]?).getD true)∘Nat.succ):Nat->Bool)=fun i=>(bs[i]?).getD true:=by funext i;simp
  rw[this,ih]
  simp
def Dl (bs:List Bool):((List.range bs.length).any fun i=>(bs[i]?).getD false)=bs.any id:=by
 induction bs with
 |nil=>rfl
 |cons b bs ih=>
  rw[List.length_cons,List.range_succ_eq_map,List.any_cons,List.any_map,List.any_cons]
  have:(((fun i=>((b::bs)[i]?).getD false)∘Nat.succ):Nat->Bool)=fun i=>(bs[i]?).getD false:=by funext i;simp
  rw[this,ih]
  simp
def E3 {s:Shared}{h':Heap}{o:Obj}(hk:∀b x,b ∉ [s.heap.objs.size]->(s.heap.push o).get? b=some x->h'.get? b=some x):∀b x,s.heap.get? b=some x->h'.get? b=some x:=
 fun b x e=>hk b x (fun hm=>by rw[List.mem_singleton.mp hm] at e;exact Nat.lt_irrefl _ (Heap.lt_size e)) (Heap.get?_push_of_some _ e)
def Iv (hc:X.calm=true):CallR X (.builtin "all") (fun xs H Q=>∃(p:Addr) (bs:List Bool),xs=[.ref p]/\SqL X.K H p (bs.map V.bl)/\Q (.bl (bs.all id)) H):=by
 intro pins s σ H xs us Q I r h
 obtain⟨p,bs,rfl,hp,q⟩:=h
 obtain⟨u,rfl,rx⟩:=U5 r
 cases rx
 obtain⟨its,rv,pl,_⟩:=I.list hp
 have hl:=pl.isList
 have ei:=E2 rv
 have hlt:p<s.heap.objs.size:=by obtain⟨_,e,_⟩:=hl;exact Heap.lt_size e
 refine call_all_walk (wpAny_pyIter_list hl ?_)
 refine⟨s.heap.objs.size,[s.heap.objs.size,p],[s.heap.objs.size],its.toArray.size,_,_,fun i=>(bs[i]?).getD true,rfl,Walks.list (A:=X.A.in1) (I.ok.hd hc) _ p (Nat.ne_of_lt hlt) its.toArray,
  ⟨⟨_,Heap.get?_push_size _ rfl,rfl,rfl⟩,hl.push _⟩,fun i v s' Q' E' hP hQ=>?_,fun h' tk hk=>?_⟩
 ·have hv:its[i]?=some v:=by simpa using hP
  rw[ei,List.getElem?_map] at hv
  cases eb:bs[i]? with
  |none=>rw[eb] at hv;cases hv
  |some b=>
   rw[eb] at hv
   cases hv
   simp only[eb,Option.getD_some] at hQ
   exact wpAny_truthy_bool hQ
 ·have e:((List.range its.toArray.size).all fun i=>(bs[i]?).getD true)=bs.all id:=by
   rw[List.size_toArray,ei,List.length_map];exact Dk bs
  rw[e]
  exact⟨.bl _,H,I.kept (E3 hk),rfl,q⟩
def Iw (hc:X.calm=true):CallR X (.builtin "any") (fun xs H Q=>∃(p:Addr) (bs:List Bool),xs=[.ref p]/\SqL X.K H p (bs.map V.bl)/\Q (.bl (bs.any id)) H):=by
 intro pins s σ H xs us Q I r h
 obtain⟨p,bs,rfl,hp,q⟩:=h
 obtain⟨u,rfl,rx⟩:=U5 r
 cases rx
 obtain⟨its,rv,pl,_⟩:=I.list hp
 have hl:=pl.isList
 have ei:=E2 rv
 have hlt:p<s.heap.objs.size:=by obtain⟨_,e,_⟩:=hl;exact Heap.lt_size e
 refine call_any_walk (wpAny_pyIter_list hl ?_)
 refine⟨s.heap.objs.size,[s.heap.objs.size,p],[s.heap.objs.size],its.toArray.size,_,_,fun i=>(bs[i]?).getD false,rfl,Walks.list (A:=X.A.in1) (I.ok.hd hc) _ p (Nat.ne_of_lt hlt) its.toArray,
  ⟨⟨_,Heap.get?_push_size _ rfl,rfl,rfl⟩,hl.push _⟩,fun i v s' Q' E' hP hQ=>?_,fun h' tk hk=>?_⟩
 ·have hv:its[i]?=some v:=by simpa using hP
  rw[ei,List.getElem?_map] at hv
  cases eb:bs[i]? with
  |none=>rw[eb] at hv;cases hv
  |some b=>
   rw[eb] at hv
   cases hv
   simp only[eb,Option.getD_some] at hQ
   exact wpAny_truthy_bool hQ
 ·have e:((List.range its.toArray.size).any fun i=>(bs[i]?).getD false)=bs.any id:=by
   rw[List.size_toArray,ei,List.length_map];exact Dl bs
  rw[e]
  exact⟨.bl _,H,I.kept (E3 hk),rfl,q⟩
def Ix:List D->M D
 |[.lst ds]=>match Jp ds with
  |some bs=>.ok (.bl (bs.all id))
  |none=>.bad
 |_=>.bad
def Zed:List D->M D
 |[.lst ds]=>match Jp ds with
  |some bs=>.ok (.bl (bs.any id))
  |none=>.bad
 |_=>.bad
def Za1 (hc:X.calm=true):Uz X E (.builtin "all") Ix:=by
 refine⟨_,Iv hc,fun Hf H xs ds Q e r q=>?_⟩
 unfold Ix at q
 split at q
 ·split at q
  ·rename_i bs hb
   obtain⟨x,rfl,h⟩:=Kf r
   obtain⟨p,ys,rfl,hp,hr⟩:=rep_lst.mp h
   have:=Uf hb hr
   subst this
   exact⟨p,bs,rfl,e.seq hp,Po.ret e q (rep_bl.mpr rfl)⟩
  ·exact q.elim
 ·exact q.elim
def Zhw (hc:X.calm=true):Uz X E (.builtin "any") Zed:=by
 refine⟨_,Iw hc,fun Hf H xs ds Q e r q=>?_⟩
 unfold Zed at q
 split at q
 ·split at q
  ·rename_i bs hb
   obtain⟨x,rfl,h⟩:=Kf r
   obtain⟨p,ys,rfl,hp,hr⟩:=rep_lst.mp h
   have:=Uf hb hr
   subst this
   exact⟨p,bs,rfl,e.seq hp,Po.ret e q (rep_bl.mpr rfl)⟩
  ·exact q.elim
 ·exact q.elim
def op_catS:OpR X (binaryOp .Add) (fun x y H Q=>∃l b xs zs,x=.ref l/\y=.ref b/\SqL X.K H l xs/\SqL X.K H b zs/\xs.length+zs.length<=sizeLine/\∀p,H p=none->Q (.ref p) (upd H p (.lst (xs++zs)))):=by
 intro pins s σ H x y v u Q I rx ry h
 obtain⟨l,b,xs,zs,rfl,rfl,hH,hB,hz,q⟩:=h
 cases rx
 cases ry
 obtain⟨its,r,pl,z⟩:=I.list hH
 obtain⟨its2,r2,pl2,z2⟩:=I.list hB
 have l1:=r.length
 have l2:=r2.length
 obtain⟨⟨cls,dd,data,sl⟩,ho,hc,n,hd⟩:=pl.isList
 obtain⟨⟨cls2,dd2,data2,sl2⟩,ho2,hc2,n2,hd2⟩:=pl2.isList
 simp only at hc hd hc2 hd2
 subst hc hd hc2 hd2
 have e:its.toArray++its2.toArray=(its++its2).toArray:=by simp
 refine concat_meets ⟨_,ho,rfl⟩ ⟨_,ho2,rfl⟩ noFill_list_add seq_list_add PySem.F.slot_list_add PySem.F.entry_list_add (PySem.F.args_list_add_2 _ _) (list_addW l b its.toArray its2.toArray n n2 dd dd2 sl sl2 (by rw[List.size_toArray,List.size_toArray];lia)) ⟨ho,ho2,?_⟩
 rw[e]
 exact⟨.ref _,_,I.lnew (t':=s.toks) (r.append r2) (by rw[List.length_append];lia),rfl,q _ I.fresh⟩
def Z8:D->D->M D
 |.int i,.int j=>.ok (.int (i+j))
 |.lst xs,.lst ys=>if few (xs++ys) then .ok (.lst (xs++ys)) else .bad
 |.tup (x::xs),.tup ys=>if few (x::xs++ys) then .ok (.tup (x::xs++ys)) else .bad
 |.str i,.str j=>if i.length+j.length<=sizeLine then .ok (.str (i++j)) else .bad
 |_,_=>.bad
def Qp:P6 X E (binaryOp .Add) Z8:=by
 refine⟨_,op_add.or (op_catS.or (op_catT.or Dc)),fun Hf H x y dx dy Q e rx ry q=>?_⟩
 unfold Z8 at q
 split at q
 ·rename_i i j
  exact .inl ⟨i,j,rep_int.mp rx,rep_int.mp ry,Po.ret e q (rep_int.mpr rfl)⟩
 ·rename_i xs ys
  split at q
  ·rename_i hf
   obtain⟨p1,us,rfl,h1,r1⟩:=rep_lst.mp rx
   obtain⟨p2,ws,rfl,h2,r2⟩:=rep_lst.mp ry
   have hl:=Vy hf (r1.append r2)
   rw[List.length_append] at hl
   exact .inr (.inl ⟨p1,p2,us,ws,rfl,rfl,e.seq h1,e.seq h2,hl,fun p hp=>q _ _ _ (Gr.alloc e hp _) (Gr.lst e hp (r1.append r2))⟩)
  ·exact q.elim
 ·rename_i x0 xs ys
  split at q
  ·rename_i hf
   obtain⟨p1,us,rfl,h1,r1⟩:=Qm rx
   obtain⟨p2,ws,rfl,h2,r2⟩:=Qm ry
   have hl:=Vy hf (r1.append r2)
   rw[List.length_append] at hl
   have hne:us≠[]:=fun z=>by
    have:=r1.length
    rw[z] at this
    cases this
   refine .inr (.inr (.inl ⟨p1,p2,us,ws,rfl,rfl,Same.seqT e h1,Same.seqT e h2,hne,hl,fun z=>?_,fun _ p hp=>q _ _ _ (Gr.alloc e hp _) (Gr.tup e hp (r1.append r2))⟩))
   subst z
   have:ys=[]:=List.length_eq_zero_iff.mp r2.length
   subst this
   rw[List.append_nil] at q
   exact Po.ret e q rx
  ·exact q.elim
 ·rename_i i j
  split at q
  ·rename_i hl
   exact .inr (.inr (.inr ⟨i,j,rep_str.mp rx,rep_str.mp ry,hl,Po.ret e q (rep_str.mpr rfl)⟩))
  ·exact q.elim
 ·exact q.elim
def Qb:D->D->M D:=Zj8
def Qn:P6 X E (binaryOp .Mult) Qb:=Zhp
def Gn (ds:List D)(lo hi:Option Int):List D:=(ds.drop (HT.sIx ds.length 0 lo)).take (HT.sIx ds.length ds.length hi-HT.sIx ds.length 0 lo)
def Ak {K:PySem.W.Frag}{H:Hp}{ds:List D}{xs:List V}(r:Reps K H ds xs)(lo hi:Option Int):Reps K H (Gn ds lo hi) (Aa xs lo hi):=by
 unfold Gn Aa
 rw[<-r.length]
 exact(r.drop _).take _
def Zmr:D->Option Int->Option Int->M D
 |.lst ds,lo,hi=>.ok (.lst (Gn ds lo hi))
 |.tup ds,lo,hi=>if HT.sIx ds.length 0 lo=0/\HT.sIx ds.length ds.length hi=ds.length then .bad else .ok (.tup (Gn ds lo hi))
 |_,_,_=>.bad
def Rs (_:Zi):M (Option Int):=.ok none
def Xq (f:Zi->M D)(sd:Zi):M (Option Int):=(f sd).bind fun d=>match d with
 |.int i=>.ok (some i)
 |_=>.bad
def Rt:Zla X E none Rs:=⟨_,Zdy,fun _ _ _ _ _ _ _ sr h=>Po.ret (R:=rQ) sr.sub h rfl⟩
def Jq {e:Expr}{f:Zi->M D}(h:Xo X E e f):Zla X E (some e) (Xq f):=by
 obtain⟨t,p,q⟩:=h
 refine⟨_,Zdz p,fun H0 B Hf sd σ H Q sr h=>?_⟩
 refine q H0 B Hf sd σ H _ sr (Po.bind h fun d v Hf1 H1 _ g1 rv h1=>?_)
 split at h1
 ·exact⟨_,rep_int.mp rv,Po.ret (R:=rQ) g1.sub h1 rfl⟩
 ·exact h1.elim
def Do (f:Zi->M D)(lo hi:Zi->M (Option Int))(sd:Zi):M D:=(f sd).bind fun d=>(lo sd).bind fun l=>(hi sd).bind fun h=>Zmr d l h
def V1 {e:Expr}{lo hi:Option Expr}{p2:Pos}{f:Zi->M D}{fl fh:Zi->M (Option Int)}(h:Xo X E e f)(hl:Zla X E lo fl)(hh:Zla X E hi fh):Xo X E (.Subscript e (.Slice lo hi none p2) pos) (Do f fl fh):=by
 obtain⟨t,p,q⟩:=h
 obtain⟨tl,pl,ql⟩:=hl
 obtain⟨th,ph,qh⟩:=hh
 refine⟨_,Zal (sl_list.or Zhd) p pl ph,fun H0 B Hf sd σ H Q sr h=>?_⟩
 refine q H0 B Hf sd σ H _ sr (Po.bind h fun d v Hf1 H1 _ g1 rv h1=>?_)
 refine ql H0 B Hf1 sd σ H1 _ (sr.gr g1) (Po.bind h1 fun l l' Hf2 H2 _ g2 el h2=>?_)
 have el:l=l':=el
 subst el
 refine qh H0 B Hf2 sd σ H2 _ ((sr.gr g1).gr g2) (Po.bind h2 fun u u' Hf3 H3 _ g3 eu h3=>?_)
 have eu:u=u':=eu
 subst eu
 have rv3:=(Rep.mono g3.fz (Rep.mono g2.fz rv))
 unfold Zmr at h3
 split at h3
 ·rename_i ds
  obtain⟨a,xs,rfl,ha,hr⟩:=rep_lst.mp rv3
  exact .inl ⟨a,xs,rfl,g3.sub.seq ha,fun p hp=>h3 _ _ _ (Gr.alloc g3.sub hp _) (Gr.lst g3.sub hp (Ak hr _ _))⟩
 ·rename_i ds
  split at h3
  ·exact h3.elim
  ·rename_i hw
   obtain⟨a,xs,rfl,ha,hr⟩:=Qm rv3
   exact .inr ⟨a,xs,rfl,Same.seqT g3.sub ha,by rw[<-hr.length];exact hw,fun p hp=>h3 _ _ _ (Gr.alloc g3.sub hp _) (Gr.tup g3.sub hp (Ak hr _ _))⟩
 ·exact h3.elim
def Pt (K:PySem.W.Frag)(Hf _H:Hp)(ds:List D)(J:It):Prop:=∀(i:Nat) (Hf1 H1:Hp),Same Hf Hf1->Same Hf1 H1->match ds[i]? with
 |some d=>J.go i H1/\∀x H2,J.yld i H1 x H2->∃Hf2,Gr Hf1 H1 Hf2 H2/\Rep K Hf2 d x
 |none=>J.stop i H1
def Zhx (X:Cx)(E:XK)(tg iter:Expr)(fi:Zi->M (List D)):Prop:=
 ∃wi:TI,PI X tg iter wi/\∀(H0:Hp) (B:Addr->Prop) (Hf:Hp) (sd:Zi) (σ:L2.St) (H:Hp) (R:It->Hp->Prop),SR X.K H0 B Hf sd σ H->Po X.K E (Pt X.K) Hf H (fi sd) R->wi σ H R
def Zhy {K:PySem.W.Frag}{Hf H:Hp}{a:Addr}{xs:List V}{ds:List D}(h:SqL K Hf a xs)(r:Reps K Hf ds xs):Pt K Hf H ds (Zk6 K a):=by
 intro i Hf1 H1 e1 e2
 have h2:=e2.seq (e1.seq h)
 cases q:ds[i]? with
 |some d=>
  obtain⟨x,ex,rx⟩:=r.get q
  refine⟨⟨xs,x,h2,ex⟩,fun y H2 hy=>?_⟩
  obtain⟨e,hy⟩:=hy
  subst e
  have ey:=hy xs h2
  rw[ex] at ey
  cases ey
  exact⟨Hf1,Gr.refl e2,rx.mono e1⟩
 |none=>
  refine⟨xs,h2,?_⟩
  have:=r.none_of q
  exact List.getElem?_eq_none_iff.mp this
def Zhz {K:PySem.W.Frag}{Hf H:Hp}{a:Addr}{xs:List V}{ds:List D}(h:SqT K Hf a xs)(r:Reps K Hf ds xs):Pt K Hf H ds (Zi4 K a):=by
 intro i Hf1 H1 e1 e2
 have h2:=Same.seqT e2 (Same.seqT e1 h)
 cases q:ds[i]? with
 |some d=>
  obtain⟨x,ex,rx⟩:=r.get q
  refine⟨⟨xs,x,h2,ex⟩,fun y H2 hy=>?_⟩
  obtain⟨e,hy⟩:=hy
  subst e
  have ey:=hy xs h2
  rw[ex] at ey
  cases ey
  exact⟨Hf1,Gr.refl e2,rx.mono e1⟩
 |none=>
  refine⟨xs,h2,?_⟩
  have:=r.none_of q
  exact List.getElem?_eq_none_iff.mp this
def Ru (lo:Int)(n:Nat):List D:=(List.range n).map fun k=>.int (lo+(k:Nat))
def Zh0 {K:PySem.W.Frag}{Hf H:Hp}(lo:Int)(n:Nat):Pt K Hf H (Ru lo n) (Zk7 lo n):=by
 intro i Hf1 H1 e1 e2
 unfold Ru
 rw[List.getElem?_map]
 by_cases hi:i<n
 ·rw[List.getElem?_range hi]
  refine⟨hi,fun y H2 hy=>?_⟩
  obtain⟨e,hy⟩:=hy
  subst e
  exact⟨Hf1,Gr.refl e2,rep_int.mpr hy⟩
 ·rw[List.getElem?_eq_none (by simpa using hi)]
  exact Nat.le_of_not_lt hi
def Kj (f:Zi->M D)(sd:Zi):M (List D):=(f sd).bind fun d=>match d with
 |.lst ds=>.ok ds
 |.tup ds=>.ok ds
 |_=>.bad
def Zh1 {tg l:Expr}{tl:TE}(hl:PE X l tl):PI X tg l (fun σ H R=>tl σ H fun x H1=>(∃a,x=.ref a/\(∃xs,SqL X.K H1 a xs)/\R (Zk6 X.K a) H1)\/∃a,x=.ref a/\(∃xs,SqT X.K H1 a xs)/\R (Zi4 X.K a) H1):=by
 intro pins s σ H R I h
 refine Yx (hl pins s σ H _ I h) fun v s1 ⟨x,H1,I1,r1,q1⟩=>?_
 rcases q1 with⟨a,e,⟨xs,hq⟩,q⟩|⟨a,e,⟨xs,hq⟩,q⟩
 ·subst e
  cases r1
  obtain⟨its,rv,p,hz⟩:=I1.list hq
  refine wpAny_pyIter_list p.isList ?_
  refine⟨s1.heap.objs.size,[s1.heap.objs.size],_,_,H1,rfl,I1.kept (t':=s1.toks) fun b o e=>Heap.get?_push_of_some _ e,Ty a _,⟨_,Heap.get?_push_size _ rfl,rfl,rfl⟩,fun b hb=>?_,q⟩
  have e:b=s1.heap.objs.size:=by simpa using hb
  subst e
  exact I1.fpOk (Nat.le_refl _) (I1.hok.fresh (Nat.le_refl _))
 ·subst e
  cases r1
  obtain⟨its,rv,p,hz⟩:=I1.tuple hq
  refine wpAny_pyIter_tuple (show s1.heap.IsTuple a its.toArray from p) ?_
  refine⟨s1.heap.objs.size,[s1.heap.objs.size],_,_,H1,rfl,I1.kept (t':=s1.toks) fun b o e=>Heap.get?_push_of_some _ e,Rg a _,⟨_,Heap.get?_push_size _ rfl,rfl,rfl⟩,fun b hb=>?_,q⟩
  have e:b=s1.heap.objs.size:=by simpa using hb
  subst e
  exact I1.fpOk (Nat.le_refl _) (I1.hok.fresh (Nat.le_refl _))
def Jr {tg l:Expr}{f:Zi->M D}(h:Xo X E l f):Zhx X E tg l (Kj f):=by
 obtain⟨t,p,q⟩:=h
 refine⟨_,Zh1 p,fun H0 B Hf sd σ H R sr h=>?_⟩
 refine q H0 B Hf sd σ H _ sr (Po.bind h fun d v Hf1 H1 _ g1 rv h1=>?_)
 split at h1
 ·rename_i ds
  obtain⟨a,xs,rfl,ha,hr⟩:=rep_lst.mp rv
  exact .inl ⟨a,rfl,⟨xs,g1.sub.seq ha⟩,Po.ret (R:=Pt X.K) g1.sub h1 (Zhy ha hr)⟩
 ·rename_i ds
  obtain⟨a,xs,rfl,ha,hr⟩:=Qm rv
  exact .inr ⟨a,rfl,⟨xs,Same.seqT g1.sub ha⟩,Po.ret (R:=Pt X.K) g1.sub h1 (Zhz ha hr)⟩
 ·exact h1.elim
def Yg (fs:Zi->M (List D))(sd:Zi):M (List D):=(fs sd).bind fun ds=>match ds with
 |[.int j]=>if -1000000<=j/\j<=1000000 then .ok (Ru 0 j.toNat) else .bad
 |_=>.bad
def Jg {tg a:Expr}{p:Pos}{fs:Zi->M (List D)} (hg:Gl X "range") (hm:X.mg "range"=none) (h:Bz X E [a] fs) (hs:starEach [a] X.env=[(false,eval a X.env)]:=by rfl):Zhx X E tg (.Call (.Name "range" p) [a] [] pos) (Yg fs):=by
 obtain⟨t,pt,q⟩:=h
 refine⟨_,Ia hg hm pt hs,fun H0 B Hf sd σ H R sr h=>?_⟩
 refine q H0 B Hf sd σ H _ sr (Po.bind h fun ds vs Hf1 H1 _ g1 rs h1=>?_)
 split at h1
 ·split at h1
  ·rename_i hj
   obtain⟨v,rfl,rv⟩:=Kf rs
   rw[rep_int.mp rv]
   exact⟨_,rfl,by lia,by lia,Po.ret (R:=Pt X.K) g1.sub h1 (Zh0 0 _)⟩
  ·exact h1.elim
 ·exact h1.elim
def Xa (g:D->Zi->M Zi)(f:Zi->M O):List D->Zi->M O
 |[],sd=>.ok (.nx sd)
 |d::r,sd=>match g d sd with
  |.ok sd1=>(f sd1).bind fun o=>match o with
   |.nx sd2=>Xa g f r sd2
   |.ct sd2=>Xa g f r sd2
   |.bk sd2=>.ok (.nx sd2)
   |.rt s=>.ok (.rt s)
  |_=>.bad
def Ka (fi:Zi->M (List D))(g:D->Zi->M Zi)(f:Zi->M O)(sd:Zi):M O:=(fi sd).bind fun ds=>Xa g f ds sd
def Xk {tg iter:Expr}{body:List Stmt}{fi:Zi->M (List D)}{g:D->Zi->M Zi}{f:Zi->M O}(hp:PassesOwn (model X.prog X.w) X.A X.env X.xe)(hc:X.calm=true)(hi:Zhx X E tg iter fi)(hg:Zhu X tg g)(hb:Nl X E body f)(hs:∀x,foldedSetIterable iter X.env x=pure x:=by intro _;rfl):Tf X E (.For tg iter body [] pos) (Ka fi g f):=by
 obtain⟨wi,pw,qw⟩:=hi
 obtain⟨tg',pg,qg⟩:=hg
 obtain⟨tb,pb,qb⟩:=hb
 refine⟨_,Db hp hc pw pg pb hs,fun H0 B Hf sd σ H D sr h=>?_⟩
 refine qw H0 B Hf sd σ H _ sr (PoS.bind sr h fun ds J Hf1 H1 _ g1 sr1 J1 h1=>?_)
 refine⟨fun i m σ' H'=>m=ds.length-i/\∃Hf' sd',Same Hf1 Hf'/\SR X.K H0 B Hf' sd' σ' H'/\PoS X.K E H0 B Hf' (Xa g f (ds.drop i) sd') D,⟨ds.length,by simp,Hf1,sd,Same.refl _,sr1,by simpa using h1⟩,?_⟩
 rintro i m σ2 H2 ⟨rfl,Hf2,sd2,e2,sr2,h2⟩
 have jj:=J1 i Hf2 H2 e2 sr2.sub
 cases q:ds[i]? with
 |none=>
  rw[q] at jj
  refine .inl ⟨jj,?_⟩
  rw[List.drop_eq_nil_of_le (List.getElem?_eq_none_iff.mp q)] at h2
  exact h2 σ2 Hf2 H2 (Same.refl _) sr2
 |some d=>
  rw[q] at jj
  obtain⟨go,yl⟩:=jj
  have hlt:i<ds.length:=(List.getElem?_eq_some_iff.mp q).1
  have hd:ds.drop i=d::ds.drop (i+1):=by
   rw[List.drop_eq_getElem_cons hlt]
   congr 1
   exact(List.getElem?_eq_some_iff.mp q).2
  rw[hd] at h2
  refine .inr ⟨go,fun σ' H'=>∃Hf' sd',Same Hf1 Hf'/\SR X.K H0 B Hf' sd' σ' H'/\PoS X.K E H0 B Hf' (Xa g f (ds.drop (i+1)) sd') D,fun σ' H' w=>⟨ds.length-(i+1),by lia,rfl,w⟩,fun x H3 y3=>?_⟩
  obtain⟨Hf3,g3,rx⟩:=yl x H3 y3
  have sr3:=sr2.gr g3
  unfold Xa at h2
  split at h2
  ·rename_i sd3 eg
   refine qg H0 B Hf3 sd2 σ2 H3 x d sd3 _ sr3 rx eg fun σ4 sr4=>?_
   refine qb H0 B Hf3 sd3 σ4 H3 _ sr4 ?_
   have h2:=PoS.weak g3.fz h2
   cases ef:f sd3 with
   |ok o=>
    rw[ef] at h2
    cases o with
    |nx sd'=>exact fun σ' Hf' H' e' sr'=>⟨Hf',sd',e2.trans (g3.fz.trans e'),sr',PoS.weak e' h2⟩
    |ct sd'=>exact fun σ' Hf' H' e' sr'=>⟨Hf',sd',e2.trans (g3.fz.trans e'),sr',PoS.weak e' h2⟩
    |bk sd'=>exact h2
    |rt s=>exact h2
   |ex x=>rw[ef] at h2;exact h2
   |bad=>rw[ef] at h2;exact h2
  ·exact h2.elim
end
def Nt {prog:Program}{w:World}{A:Around}{R:Result->Shared->Prop}{s:Shared}{elt target iter:Expr}{scope:Scope}{pos:Pos}{it acc:Value}{env:Env}(I:Nat->Shared->Prop)
  (turn:∀n s,I n s->wpAny (model prog w) A (pyNext it) (fun r s₁=>match r with
   |none=>R (.ok .next) s₁
   |some v=>wpAny (model prog w) A (letOwnedTupleGo target it v) (fun _ s₂=>wpAny (model prog w) A (assign target env v) (fun _ s₃=>wpAny (model prog w) A (eval elt env) (fun x s₄=>
     wpAny (model prog w) A (call (.builtin "list.append") [acc,x]) (fun _ s₅=>∃m,m<n/\I m s₅) (fun _ _=>False) s₄) (fun _ _=>False) s₃) (fun _ _=>False) s₂) (fun _ _=>False) s₁) (fun _ _=>False) s)
  (n:Nat) (h:I n s):
  codeAny (model prog w) A (.compLoop (.ListComp elt [⟨target,iter,[],0⟩] scope pos) 0 it acc env) R s:=by
 refine codeAny_loop rfl I (fun n s hI=>?_) n h
 show wpAny _ A ((compTurn (.ListComp elt [⟨target,iter,[],0⟩] scope pos) 0 it acc env).onRaise (fun x=>do noteFrame x env;theTreesLotGoes x)) _ _ s
 refine wpAny_noted ?_
 rw[compTurn_list]
 refine wpAny_bind (wpAny_standAt (wpAny_bind (wpAny_mono (turn n s hI) (fun r s₁ h₁=>?_) fun _ _ h'=>h'.elim)))
 cases r with
 |none=>exact wpAny_pure h₁
 |some v=>
  refine wpAny_bind (wpAny_mono h₁ (fun _ s₂ h₂=>?_) fun _ _ h'=>h'.elim)
  refine wpAny_bind (wpAny_mono h₂ (fun _ s₃ h₃=>?_) fun _ _ h'=>h'.elim)
  refine wpAny_bind (wpAny_tests_nil ?_)
  exact wpAny_bind (wpAny_bind (wpAny_mono h₃ (fun x s₄ h₄=>wpAny_bind (wpAny_mono h₄ (fun _ s₅ h₅=>wpAny_pure (wpAny_pure ⟨rfl,h₅⟩)) fun _ _ h'=>h'.elim)) fun _ _ h'=>h'.elim))
def Ug (X:Cx)(Nc:List Str)(scope:Scope)(cl:List (Str×Addr))(s3:Shared)(H3:Hp)(C:Addr)(ex:List Addr):Cx:=
 {X with N:=Nc,s₀:=s3,H₀:=H3,env:=compEnvC scope cl C X.env,outer:=X.stack,stack:=X.stack,ex:=ex,fn:=fun _=>false,pn:=[],xe:=fun _ _=>False}
structure CapOk (X:Cx) (Nc:List Str) (n0:Nat) (caps:List Nat) (scope:Scope) (cl:List (Str×Addr)):Prop where
 sub:∀y c,cl.lookup y=some c->X.env.cells.lookup y=some c
 has:∀y,(relabel scope X.env).names.lookup y=some .cell\/(relabel scope X.env).names.lookup y=some .free->∃c,cl.lookup y=some c
 cap:∀(i j:Nat) (x:Str),Nc[n0+i]?=some x->caps[i]?=some j->X.N[j]?=some x/\X.env.scope.names.lookup x=some .cell/\(relabel scope X.env).names.lookup x=some .cell
 len:Nc.length=n0+caps.length
def Q9:Obj:={cls:=.type "list", dict:=none,data:=.seq ([]:List Value).toArray}
section
variable {X:Cx}{pins:List (Addr×Obj)}{σ:L2.St}{H2:Hp}{s2:Shared}{Nc:List Str}{n0:Nat}{caps:List Nat}{scope:Scope}{cl:List (Str×Addr)}{fp:List Addr}
def Al (I2:Inv X pins σ H2 s2)(f2:∀b∈fp,Pn X pins H2 b)(hold:∀b∈fp,∃o,s2.heap.get? b=some o)(hkind:scope.kind=.function)(cap:CapOk X Nc n0 caps scope cl){h1:Heap}{m0:Str->Option Value}{tk:Nat}(hns:h1.Ns (s2.heap.objs.size+1) m0)(hold1:∀b o,s2.heap.get? b=some o->h1.get? b=some o)(hD:h1.get? s2.heap.objs.size=some Q9):
  Inv (Ug X Nc scope cl {s2 with heap:=s2.heap.push Q9} (upd H2 s2.heap.objs.size (.lst [])) (s2.heap.objs.size+1) fp) [] (List.replicate n0 none++caps.map fun j=>(σ[j]?).join) (upd H2 s2.heap.objs.size (.lst [])) {s2 with heap:=h1,toks:=tk}:=by
 have fresh:H2 s2.heap.objs.size=none:=I2.hok.fresh (Nat.le_refl _)
 have freshC:H2 (s2.heap.objs.size+1)=none:=I2.hok.fresh (Nat.le_succ _)
 have sz:(s2.heap.push Q9).objs.size=s2.heap.objs.size+1:=Heap.size_push _ _
 have lt:∀{b:Addr}{o:Obj},s2.heap.get? b=some o->b<s2.heap.objs.size:=fun e=>Heap.lt_size e
 have ne0:∀{b:Addr}{o:Obj},s2.heap.get? b=some o->b≠s2.heap.objs.size:=fun e=>Nat.ne_of_lt (lt e)
 have clt:∀y c,cl.lookup y=some c->c<s2.heap.objs.size:=fun y c e=>by
  obtain⟨v,q⟩:=I2.cell y c (cap.sub y c e)
  exact q.lt
 have frl:∀b∈Hy X.stack,b<s2.heap.objs.size:=fun b hb=>by
  obtain⟨_,o,ho,_⟩:=I2.stack.mem hb
  exact lt ho
 have kp:∀b o,(s2.heap.push Q9).get? b=some o->h1.get? b=some o:=fun b o e=>by
  by_cases hb:b=s2.heap.objs.size
  ·subst hb
   rw[Heap.get?_push_size _ rfl] at e
   cases e
   exact hD
  ·rw[Heap.get?_push_ne _ _ _ hb] at e
   exact hold1 b o e
 have hok3:HOk X.prog X.w (upd H2 s2.heap.objs.size (.lst [])) h1:=I2.hok.laid hold1 (Nat.le_refl _) ⟨Nat.zero_le _,[],0,.nil,hD⟩
 refine⟨⟨I2.ok.mod,?_,I2.ok.glob,I2.ok.blt,?_,?_,?_,?_,I2.ok.hd,I2.ok.frames,.inl rfl,?_,?_,?_,?_,?_,?_,?_⟩,rfl,I2.bare,?_,⟨m0,hns,?_⟩,?_,?_,?_,?_,hok3,?_⟩
 ·show(relabel scope X.env).kind=.function
  exact hkind
 ·show(s2.heap.push Q9).objs.size<=s2.heap.objs.size+1
  rw[sz];exact Nat.le_refl _
 ·intro x y c h1 h2
  exact I2.ok.inj x y c (cap.sub x c h1) (cap.sub y c h2)
 ·intro x h
  exact cap.has x h
 ·intro x c h
  cases h
 ·intro b hb
  refine⟨?_,fun x c e=>?_⟩
  ·obtain⟨o,e⟩:=hold b hb
   exact Nat.ne_of_lt (Nat.lt_succ_of_lt (lt e))
  ·exact(f2 b hb).2.2.2.2.1 x c (cap.sub x c e)
 ·intro b o e
  obtain⟨q1,q2⟩:=I2.bs b o e
  exact⟨Heap.get?_push_of_some _ q1,(Zn (ne0 q1)).trans q2⟩
 ·show X.base.objs.size<=(s2.heap.push Q9).objs.size
  rw[sz]
  exact Nat.le_succ_of_le (Nat.le_trans I2.ok.bsz I2.sz)
 ·intro b o e hb
  obtain⟨_,_,_,f4,_,_⟩:=f2 b hb
  rcases f4 with z|z
  ·exact I2.ok.noex b o e z
  ·exact absurd (Nat.lt_of_lt_of_le (Nat.lt_of_lt_of_le (Heap.lt_size e) I2.ok.bsz) z) (Nat.lt_irrefl _)
 ·intro b hb hz
  rcases List.mem_cons.mp (I2.stkSub b hz) with e|hz
  ·exact(f2 b hb).2.1 e
  ·exact(f2 b hb).2.2.1 hz
 ·exact I2.stack.of_keeps fun b o e _=>⟨o,Heap.get?_push_of_some _ e,rfl⟩
 ·intro b hb
  show upd H2 s2.heap.objs.size (.lst []) b=none
  rw[Zn (Nat.ne_of_lt (frl b hb))]
  exact I2.stkFree b hb
 ·exact Un.kept kp
 ·intro i x v e1 e2 e3
  have hi:n0<=i:=by
   refine Nat.le_of_not_lt fun hlt=>?_
   rw[List.getElem?_append_left (by simpa using hlt),List.getElem?_replicate] at e2
   split at e2<;>cases e2
  obtain⟨k,rfl⟩:=Nat.exists_eq_add_of_le hi
  rw[List.getElem?_append_right (by simp),List.length_replicate,Nat.add_sub_cancel_left,List.getElem?_map] at e2
  cases ej:caps[k]? with
  |none=>rw[ej] at e2;cases e2
  |some j=>
   rw[ej] at e2
   have e2:(σ[j]?).join=some v:=by simpa using e2
   have es:σ[j]?=some (some v):=by
    cases z:σ[j]? with
    |none=>rw[z] at e2;cases e2
    |some q=>rw[z] at e2;have:q=some v:=e2;rw[this]
   obtain⟨a1,a2,a3⟩:=cap.cap k j x e1 ej
   obtain⟨m,hn,hl⟩:=I2.loc
   obtain⟨u,ru,lk⟩:=hl j x v a1 es (.inr (.inl a2))
   refine⟨u,ru,?_⟩
   rcases lk with⟨z,_⟩|⟨_,c,ec,cell⟩
   ·have z:X.env.scope.names.lookup x=some .local:=z
    rw[a2] at z;cases z
   ·obtain⟨c',ec'⟩:=cap.has x (.inl a3)
    have:=cap.sub x c' ec'
    rw[ec] at this
    cases this
    obtain⟨o,ho,hd⟩:=cell
    exact .inr ⟨.inl a3,c,ec',o,hold1 _ _ ho,hd⟩
 ·intro x c e
  obtain⟨v,o,ho,hd⟩:=I2.cell x c (cap.sub x c e)
  exact⟨v,o,hold1 _ _ ho,hd⟩
 ·show upd H2 s2.heap.objs.size (.lst []) (s2.heap.objs.size+1)=none
  rw[Zn (Nat.ne_of_gt (Nat.lt_succ_self _))]
  exact freshC
 ·intro x c e
  show upd H2 s2.heap.objs.size (.lst []) c=none
  rw[Zn (Nat.ne_of_lt (clt x c e))]
  exact I2.freeC x c (cap.sub x c e)
 ·intro p hp
  exact absurd (show p∈([]:List (Addr×Obj)) from hp) (by simp)
 ·rw[List.length_append,List.length_replicate,List.length_map]
  exact cap.len.symm
def Le (I2:Inv X pins σ H2 s2)(f2:∀b∈fp,Pn X pins H2 b){σ':L2.St}{H':Hp}{s':Shared}{h':Heap}(J:Inv (Ug X Nc scope cl {s2 with heap:=s2.heap.push Q9} (upd H2 s2.heap.objs.size (.lst [])) (s2.heap.objs.size+1) fp) [] σ' H' s')(sb:Heap.SameBut (s2.heap.objs.size+1) s'.heap h'):
  Inv X pins σ H' {s' with heap:=h'}:=by
 have I3:Inv X pins σ (upd H2 s2.heap.objs.size (.lst [])) {s2 with heap:=s2.heap.push Q9}:=I2.laid (t':=s2.toks) (fun b u e=>Heap.get?_push_of_some _ e) (Nat.le_refl _) ⟨Nat.zero_le _,[],0,.nil,Heap.get?_push_size _ rfl⟩
 have sz:(s2.heap.push Q9).objs.size=s2.heap.objs.size+1:=Heap.size_push _ _
 have same:∀{b:Addr}{o:Obj},(s2.heap.push Q9).get? b=some o->h'.get? b=s'.heap.get? b:=fun {b o} e=>sb.2 b (by
  have:=Heap.lt_size e
  rw[sz] at this
  exact Nat.ne_of_lt this)
 have u:Un (Hy X.stack) fp (upd H2 s2.heap.objs.size (.lst [])) H' (s2.heap.push Q9) s'.heap:=J.base
 refine I3.call' (s':={s' with heap:=h'}) (ch:=fp) J.os ⟨fun b o e n h1 h2=>?_,fun b o e n h1 h2=>?_,u.free,fun b o e h1=>?_,u.tups,u.frzs,u.tbls⟩ (fun b ob e=>?_) J.bare fun b hb=>?_
 ·show h'.get? b=_
  rw[same e];exact u.keep b o e n h1 h2
 ·show ∃sl,h'.get? b=_
  rw[same e];exact u.slot b o e n h1 h2
 ·show ∃o',h'.get? b=_
  rw[same e];exact u.there b o e h1
 ·have fr:H' (s2.heap.objs.size+1)=none:=J.free
  refine(J.hok b ob e).stay (fun c w hc q=>?_) (fun _ q=>q) (fun _ _ q=>q) fun _ _ _ q=>q
  refine(sb.2 c ?_).trans q
  rintro rfl
  rcases hc with rfl|hc
  ·rw[fr] at e;cases e
  ·rw[fr] at hc;cases hc
 ·obtain⟨f0,f1,_,f3,f4,f5⟩:=f2 b hb
  exact⟨f3,f1,f4,f5⟩
end
def Zkb:Option S->Option S
 |some (.im d)=>some (.im d)
 |_=>none
def U0 (n0:Nat)(caps:List Nat)(sd:Zi):Zi:=List.replicate n0 none++caps.map fun j=>Zkb (sd[j]?).join
def W4 (gt:D->Zi->M Zi)(fe:Zi->M D)(sd0:Zi):List D->M (List D)
 |[]=>.ok []
 |d::ds=>match gt d sd0 with
  |.ok sd1=>match fe sd1 with
   |.ok e=>match W4 gt fe sd0 ds with
    |.ok es=>.ok (e::es)
    |_=>.bad
   |_=>.bad
  |_=>.bad
def V2 (fi:Zi->M (List D))(n0:Nat)(caps:List Nat)(gt:D->Zi->M Zi)(fe:Zi->M D)(sd:Zi):M (List D):=(fi sd).bind fun ds=>if few ds then W4 gt fe (U0 n0 caps sd) ds else .bad
def PoF (K:PySem.W.Frag)(E:XK)(Hf H:Hp)(r:M (List D))(Q:VK):Prop:=match r with
 |.ok ds=>∀p xs Hf' H',Gr Hf H Hf' H'->H p=none->Hf' p=none->H' p=some (.lst xs)->Reps K Hf' ds xs->Q (.ref p) H'
 |.ex x=>∀c dx Hf' H',Gr Hf H Hf' H'->Zhn K Hf' H' x c dx->E c dx H'
 |.bad=>False
def Zi6 (X:Cx)(E:XK)(e:Expr)(f:Zi->M (List D)):Prop:=
 ∃t:TE,PE X e t/\∀(H0:Hp) (B:Addr->Prop) (Hf:Hp) (sd:Zi) (σ:L2.St) (H:Hp) (Q:VK),SR X.K H0 B Hf sd σ H->PoF X.K E Hf H (f sd) Q->t σ H Q
def PoF.weak {K:PySem.W.Frag}{E:XK}{Hf H Hf1 H1:Hp}{r:M (List D)}{Q:VK}(g:Gr Hf H Hf1 H1)(h:PoF K E Hf H r Q):PoF K E Hf1 H1 r Q:=by
 cases r with
 |ok a=>exact fun p xs Hf' H' g' e1 e2 e3 e4=>h p xs Hf' H' (g.trans g') (g.all.free e1) e2 e3 e4
 |ex x=>exact fun c dx Hf' H' g' q=>h c dx Hf' H' (g.trans g') q
 |bad=>exact h
theorem PoF.bind {K:PySem.W.Frag}{E:XK}{Hf H:Hp}{α β:Type}{R:Hp->Hp->α->β->Prop}{r:M α}{k:α->M (List D)}{Q:VK}{Q1:β->Hp->Prop}(h:PoF K E Hf H (r.bind k) Q)(s:∀a b Hf1 H1,r=.ok a->Gr Hf H Hf1 H1->R Hf1 H1 a b->PoF K E Hf1 H1 (k a) Q->Q1 b H1):Po K E R Hf H r Q1:=by
 cases r with
 |ok a=>exact fun b Hf' H' g q=>s a b Hf' H' rfl g q (PoF.weak g h)
 |ex x=>exact h
 |bad=>exact h
def Pu (f:Zi->M (List D))(sd:Zi):M D:=(f sd).bind fun ds=>.ok (.lst ds)
def Mq {X:Cx}{E:XK}{e:Expr}{f:Zi->M (List D)}(h:Zi6 X E e f):Xo X E e (Pu f):=by
 obtain⟨t,p,q⟩:=h
 refine⟨t,p,fun H0 B Hf sd σ H Q sr h=>q H0 B Hf sd σ H Q sr ?_⟩
 unfold Pu at h
 cases e:f sd with
 |ok ds=>
  rw[e] at h
  intro p xs Hf' H' g e1 e2 e3 e4
  refine h _ (upd Hf' p (.lst xs)) H' ⟨g.fz.trans (Qs e2 _),fun b u z=>?_,g.all,fun a h1 h2=>?_⟩ (rep_lst.mpr ⟨p,xs,rfl,SqL.of Zu,e4.mono (Qs e2 _)⟩)
  ·by_cases hb:b=p
   ·subst hb;rw[Zu] at z;rw[e3];exact z
   ·rw[Zn hb] at z;exact g.sub b u z
  ·have:a≠p:=fun z=>h1.nn (z▸e1)
   rw[Zn this];exact g.ban a h1 h2
 |ex x=>rw[e] at h;exact h
 |bad=>rw[e] at h;exact h
def Iy {gt:D->Zi->M Zi}{fe:Zi->M D}{sd0:Zi}{x:XV}:∀{ds:List D},W4 gt fe sd0 ds=.ex x->False
 |[],h=>by cases h
 |d::ds,h=>by
  unfold W4 at h
  split at h
  ·split at h
   ·split at h<;>cases h
   ·cases h
  ·cases h
def SR.ofIm {K:PySem.W.Frag}{Hf H:Hp}{sd:Zi}{σ:L2.St}(e:Same Hf H)(hl:sd.length=σ.length)(him:∀(i:Nat) (d:D),sd[i]?=some (some (.im d))->∃v,σ[i]?=some (some v)/\Rep K Hf d v)(hno:∀(i:Nat) (t:S),sd[i]?=some (some t)->∃d,t=.im d):
  SR K H (fun a=>Lv H a/\Hf a=none) Hf sd σ H:=
 ⟨e,Same.refl _,fun _ h=>h.2,fun _ h=>h.1,hl,fun i t h _=>(by obtain⟨d,rfl⟩:=hno i t h;exact him i d h),fun i t h ho=>(by obtain⟨d,rfl⟩:=hno i t h;cases ho),fun i _ t _ _ _ h ho _ _ _ _=>(by obtain⟨d,rfl⟩:=hno i t h;cases ho)⟩
def Mr {n0:Nat}{caps:List Nat}{sd:Zi}{i:Nat}{s:S}(h:(U0 n0 caps sd)[i]?=some (some s)):n0<=i:=by
 refine Nat.le_of_not_lt fun hlt=>?_
 unfold U0 at h
 rw[List.getElem?_append_left (by simpa using hlt),List.getElem?_replicate] at h
 split at h<;>cases h
def Dp {n0:Nat}{caps:List Nat}{sd:Zi}{i:Nat}{s:S}(h:(U0 n0 caps sd)[i]?=some (some s)):∃k j d,i=n0+k/\caps[k]?=some j/\sd[j]?=some (some (.im d))/\s=.im d:=by
 obtain⟨k,rfl⟩:=Nat.exists_eq_add_of_le (Mr h)
 unfold U0 at h
 rw[List.getElem?_append_right (by simp),List.length_replicate,Nat.add_sub_cancel_left,List.getElem?_map] at h
 cases ej:caps[k]? with
 |none=>rw[ej] at h;cases h
 |some j=>
  rw[ej] at h
  have h:Zkb (sd[j]?).join=some s:=by simpa using h
  cases z:sd[j]? with
  |none=>rw[z] at h;cases h
  |some q=>
   rw[z] at h
   cases q with
   |none=>cases h
   |some q=>
    cases q with
    |im d=>cases h;exact⟨k,j,d,rfl,ej,z,rfl⟩
    |ow _=>cases h
    |od _=>cases h
    |dk _=>cases h
    |xc _=>cases h
    |fn _=>cases h
    |ob _ _ _=>cases h
    |fl _ _ _=>cases h
def Za2 {n0:Nat}{caps:List Nat}{sd:Zi}(i:Nat)(t:S)(h:(U0 n0 caps sd)[i]?=some (some t)):∃d,t=.im d:=by
 obtain⟨_,_,d,_,_,_,e⟩:=Dp h
 exact⟨d,e⟩
def Zh2 (n0:Nat)(gt:D->Zi->M Zi):Prop:=∀d sd sd1,gt d sd=.ok sd1->sd1.length=sd.length/\(∀i:Nat,n0<=i->sd1[i]?=sd[i]?)/\True
def Ks {n0 k:Nat}(h:k<n0):Zh2 n0 (Xf k):=fun d sd sd1 e=>by
 cases e
 exact⟨List.length_set,fun i hi=>List.getElem?_set_ne (by lia),trivial⟩
def U8 {X:Cx}{E:XK}{pos:Pos}{tg elt iter:Expr}{scope:Scope}{Nc:List Str}{n0:Nat}{caps:List Nat}{cl:List (Str×Addr)}{fi:Zi->M (List D)}{gt:D->Zi->M Zi}{fe:Zi->M D}(hc:X.calm=true)(hclos:closureFor scope X.env=pure cl)(cap:CapOk X Nc n0 caps scope cl)(hkind:scope.kind=.function)(hcell:∀y∈scope.names,y.2≠.cell)(hnames:∀y∈scope.names,y.2=.local->scope.names.lookup y.1=some .local)(hk:Zh2 n0 gt)(hi:Zhx X E tg iter fi)(hg:∀s3 H3 C ex,Zhu (Ug X Nc scope cl s3 H3 C ex) tg gt)(he:∀s3 H3 C ex,Xo (Ug X Nc scope cl s3 H3 C ex) E0 elt fe)(hs:∀x,foldedSetIterable iter X.env x=pure x:=by intro _;rfl):
  Zi6 X E (.ListComp elt [⟨tg,iter,[],0⟩] scope pos) (V2 fi n0 caps gt fe):=by
 refine⟨fun σ H Q=>∃H0 B Hf sd,SR X.K H0 B Hf sd σ H/\PoF X.K E Hf H (V2 fi n0 caps gt fe sd) Q,?_,fun H0 B Hf sd σ H Q sr h=>⟨H0,B,Hf,sd,sr,h⟩⟩
 rintro pins s σ H Q I ⟨H0,B,Hf,sd,sr,h⟩
 obtain⟨wi,pw,qw⟩:=hi
 rw[eval_ListComp]
 refine wpAny_comprehension_free (use:=none) rfl hs hclos hkind hnames ?_
 have step:=pw pins s σ H (fun J H2=>∃ds Hf2,Gr Hf H Hf2 H2/\Pt X.K Hf2 H2 ds J/\PoF X.K E Hf2 H2 (if few ds then W4 gt fe (U0 n0 caps sd) ds else .bad) Q) I
  (qw H0 B Hf sd σ H _ sr (PoF.bind h fun ds J Hf2 H2 _ g2 jok h2=>⟨ds,Hf2,g2,jok,h2⟩))
 refine Yx step fun v s1 h1=>Yx h1 fun itv s2 h2=>?_
 obtain⟨it,fp,tn,J,H2,rfl,I2,T,st2,f2,ds,Hf2,g2,jok,hq⟩:=h2
 have sr2:=sr.gr g2
 split at hq
 case isFalse=>exact hq.elim
 case isTrue hfew=>
 have fresh:H2 s2.heap.objs.size=none:=I2.hok.fresh (Nat.le_refl _)
 have holdf:∀b∈fp,∃o,s2.heap.get? b=some o:=fun b hb=>let ⟨o,e,_⟩:=T.obj 0 _ st2 b hb;⟨o,e⟩
 refine wpAny_newObj_type (wpAny_newFunctionEnv hcell (by intro y hy;simp at hy) (fun h₁ hns₁ hsb₁=>?_) hkind)
 have hC:(s2.heap.push Q9).objs.size=s2.heap.objs.size+1:=Heap.size_push _ _
 have hns:h₁.Ns (s2.heap.objs.size+1) (fun x=>([]:List (Str×Value)).reverse.lookup x):=hC▸hns₁
 have hsb:Heap.SameBut (s2.heap.objs.size+1) ((s2.heap.push Q9).push {cls:=.type "dict", data:=.dict #[]}) h₁:=hC▸hsb₁
 have hold1:∀b o,s2.heap.get? b=some o->h₁.get? b=some o:=fun b o e=>by
  have hb:b<s2.heap.objs.size:=Heap.lt_size e
  exact(hsb.2 b (Nat.ne_of_lt (Nat.lt_succ_of_lt hb))).trans (Heap.get?_push_of_some _ (Heap.get?_push_of_some _ e))
 have hD:h₁.get? s2.heap.objs.size=some Q9:=(hsb.2 _ (Nat.ne_of_lt (Nat.lt_succ_self _))).trans (Heap.get?_push_of_some _ (Heap.get?_push_size _ rfl))
 have J0:=Al I2 f2 holdf hkind cap (tk:=s2.toks+([]:List (Str×Value)).length) hns hold1 hD
 have hg:=hg {s2 with heap:=s2.heap.push Q9} (upd H2 s2.heap.objs.size (.lst [])) (s2.heap.objs.size+1) fp
 have he:=he {s2 with heap:=s2.heap.push Q9} (upd H2 s2.heap.objs.size (.lst [])) (s2.heap.objs.size+1) fp
 generalize hXc:Ug X Nc scope cl {s2 with heap:=s2.heap.push Q9} (upd H2 s2.heap.objs.size (.lst [])) (s2.heap.objs.size+1) fp=Xc at J0 hg he
 have eP:Xc.prog=X.prog:=by subst hXc;rfl
 have eW:Xc.w=X.w:=by subst hXc;rfl
 have eK:Xc.K=X.K:=by subst hXc;rfl
 have eA:Xc.A=X.A:=by subst hXc;rfl
 have eX:Xc.xe=fun _ _=>False:=by subst hXc;rfl
 have eE:Xc.env=compEnvC scope cl (s2.heap.objs.size+1) X.env:=by subst hXc;rfl
 have eC:Xc.calm=true:=by subst hXc;exact hc
 have fpc:∀{H':Hp},(∀b∈fp,H' b=none)->∀b∈fp,Pn Xc [] H' b:=fun {H'} hn b hb=>by
  subst hXc
  obtain⟨f0,f1,f2',f3,f4,f5⟩:=f2 b hb
  obtain⟨o,eo⟩:=holdf b hb
  refine⟨hn b hb,Nat.ne_of_lt (Nat.lt_succ_of_lt (Heap.lt_size eo)),fun hz=>?_,.inl hb,fun x c e=>f4 x c (cap.sub x c e),fun p hp=>absurd (show p∈([]:List (Addr×Obj)) from hp) (by simp)⟩
  rcases List.mem_cons.mp (I2.stkSub b hz) with e|hz
  ·exact f1 e
  ·exact f2' hz
 have nfp:∀b∈fp,b≠s2.heap.objs.size:=fun b hb=>by
  obtain⟨o,eo⟩:=holdf b hb
  exact Nat.ne_of_lt (Heap.lt_size eo)
 obtain⟨tg',pg,qg⟩:=hg
 obtain⟨te,pe,qe⟩:=he
 have loop:∀s₃:Shared,s₃={s2 with heap:=h₁,toks:=s2.toks+([]:List (Str×Value)).length} ->
   codeAny (model X.prog X.w) X.A (.compLoop (.ListComp elt [⟨tg,iter,[],0⟩] scope pos) 0 (.ref it) (.ref s2.heap.objs.size) (compEnvC scope cl (s2.heap.objs.size+1) X.env))
    (compPost (model X.prog X.w) X.A X.xe none (EP X pins σ Q) (.ref s2.heap.objs.size) (s2.heap.objs.size+1)) s₃:=by
  rintro s₃ rfl
  refine Nt (fun n s'=>∃i vs es H' Hf' σ',n=ds.length-i/\i<=ds.length/\Inv Xc [] σ' H' s'/\tn i s'.heap/\(∀b∈fp,H' b=none) /\
   H' s2.heap.objs.size=some (.lst vs)/\Hf' s2.heap.objs.size=none/\Gr Hf2 H2 Hf' H'/\Reps X.K Hf' es vs/\vs.length=i /\
   (U0 n0 caps sd).length=σ'.length/\(∀(j:Nat) (d:D),(U0 n0 caps sd)[j]?=some (some (.im d))->∃v,σ'[j]?=some (some v)/\Rep X.K Hf' d v) /\
   PoF X.K E Hf2 H2 ((W4 gt fe (U0 n0 caps sd) (ds.drop i)).bind fun fs=>.ok (es++fs)) Q) ?_ ds.length ?_
  ·rintro n s' ⟨i,vs,es,H',Hf',σ',rfl,hil,J1,st1,fr1,hd1,hf1,g1,rs1,hl1,hlen1,him1,hq1⟩
   have jj:=jok i Hf' H' g1.fz g1.sub
   cases q:ds[i]? with
   |none=>
    rw[q] at jj
    have tdone:=T.done Xc eP eW eK eC i [] s' _ H' (fun _ _=>False) J1 (fpc fr1) st1 jj
    rw[eA] at tdone
    refine wpAny_mono tdone (fun r s4 hr=>?_) fun _ _ z=>z
    obtain⟨rfl,J4⟩:=hr
    rw[List.drop_eq_nil_of_le (List.getElem?_eq_none_iff.mp q)] at hq1
    subst hXc
    obtain⟨m,hn4,_⟩:=J4.loc
    refine⟨m,hn4,fun h' sb=>?_⟩
    refine⟨.ref s2.heap.objs.size,H',Le I2 f2 J4 sb,rfl,?_⟩
    have hq2:PoF X.K E Hf2 H2 (.ok es) Q:=by
     have:es++([]:List D)=es:=List.append_nil es
     rw[<-this];exact hq1
    exact hq2 _ vs Hf' H' g1 fresh hf1 hd1 rs1
   |some d=>
    rw[q] at jj
    obtain⟨go,yl⟩:=jj
    have hlt:i<ds.length:=(List.getElem?_eq_some_iff.mp q).1
    have hdr:ds.drop i=d::ds.drop (i+1):=by
     rw[List.drop_eq_getElem_cons hlt]
     congr 1
     exact(List.getElem?_eq_some_iff.mp q).2
    obtain⟨sd1,e1,eg,ee,hq2⟩:∃sd1 e1,gt d (U0 n0 caps sd)=.ok sd1/\fe sd1=.ok e1/\PoF X.K E Hf2 H2 ((W4 gt fe (U0 n0 caps sd) (ds.drop (i+1))).bind fun fs=>.ok ((es++[e1])++fs)) Q:=by
     rw[hdr] at hq1
     unfold W4 at hq1
     split at hq1
     ·rename_i sd1 eg
      split at hq1
      ·rename_i e1 ee
       refine⟨sd1,e1,eg,ee,?_⟩
       cases em:W4 gt fe (U0 n0 caps sd) (ds.drop (i+1)) with
       |ok fs=>
        rw[em] at hq1
        have:(es++[e1])++fs=es++e1::fs:=by simp
        rw[M.bind_ok,this]
        exact hq1
       |ex x=>exact(Iy em).elim
       |bad=>rw[em] at hq1;exact hq1.elim
      ·exact hq1.elim
     ·exact hq1.elim
    have titem:=T.item Xc eP eW eK eC i [] s' _ H' (fun _ _=>False) J1 (fpc fr1) st1 go
    rw[eA] at titem
    refine wpAny_mono titem (fun r s4 hr=>?_) fun _ _ z=>z
    obtain⟨u,rfl,h4⟩:=hr
    refine wpAny_mono h4 (fun _ s5 h5=>?_) fun _ _ z=>z
    obtain⟨x,H5,J5,r5,y5,st5,fr5⟩:=h5
    obtain⟨Hf5,g5,rx⟩:=yl x H5 y5
    have J5':=J5.pinned (fpc fr5) (T.obj _ _ st5)
    have hD5:H5 s2.heap.objs.size=some (.lst vs):=g5.all _ _ hd1
    have hf5:Hf5 s2.heap.objs.size=none:=g5.ban _ (Lv.lst hd1) hf1
    have him5:∀(j:Nat) (d:D),(U0 n0 caps sd)[j]?=some (some (.im d))->∃v,σ'[j]?=some (some v)/\Rep X.K Hf5 d v:=fun j d z=>let ⟨v,z1,z2⟩:=him1 j d z;⟨v,z1,z2.mono g5.fz⟩
    have sr5:SR Xc.K H5 (fun a=>Lv H5 a/\Hf5 a=none) Hf5 (U0 n0 caps sd) σ' H5:=eK▸SR.ofIm g5.sub hlen1 him5 Za2
    obtain⟨kl,kk,kn⟩:=hk d _ sd1 eg
    have hg2:=pg _ s5 σ' H5 x u (fun σ6 H6=>te σ6 H6 fun v7 H7=>∃Hf7,Gr Hf5 H5 Hf7 H7/\Rep X.K Hf7 e1 v7/\(U0 n0 caps sd).length=σ6.length/\(∀(j:Nat) (d:D),(U0 n0 caps sd)[j]?=some (some (.im d))->∃v,σ6[j]?=some (some v)/\Rep X.K Hf7 d v)) J5' r5
     (qg H5 _ Hf5 _ σ' H5 x d sd1 _ sr5 (eK▸rx) eg fun σ6 sr6=>qe H5 _ Hf5 sd1 σ6 H5 _ sr6 (by
      rw[ee]
      intro v7 Hf7 H7 g7 r7
      have r7:Rep Xc.K Hf7 e1 v7:=r7
      rw[eK] at r7
      refine⟨Hf7,g7,r7,by rw[<-kl];exact sr6.len,fun j d z=>?_⟩
      have z2:sd1[j]?=some (some (.im d)):=by rw[kk j (Mr z)];exact z
      obtain⟨v,z3,z4⟩:=sr6.im j d z2
      rw[eK] at z4
      exact⟨v,z3,z4.mono g7.fz⟩))
    rw[eP,eW,eA,eX,eE] at hg2
    refine wpAny_mono hg2 (fun _ s6 h6=>?_) fun _ _ z=>z
    obtain⟨σ6,H6,J6,q6⟩:=h6
    have he2:=pe _ s6 σ6 H6 _ J6 q6
    rw[eP,eW,eA,eX,eE] at he2
    refine wpAny_mono he2 (fun y s7 h7=>?_) fun _ _ z=>z
    obtain⟨v7,H7,J7,r7,Hf7,g7,rv7,hl7,him7⟩:=h7
    have hD7:H7 s2.heap.objs.size=some (.lst vs):=g7.all _ _ hD5
    have hf7:Hf7 s2.heap.objs.size=none:=g7.ban _ (Lv.lst hD5) hf5
    have happ:=Wr (X:=Xc) _ s7 σ6 H7 (.ref s2.heap.objs.size) [v7] (.ref s2.heap.objs.size) [y] (fun _ H8=>H8=upd H7 s2.heap.objs.size (.lst (vs++[v7]))) J7 rfl (.cons r7 .nil)
     ⟨_,vs,v7,rfl,rfl,hD7,by
      have h1:=of_decide_eq_true hfew
      have h2:=sizeLine_eq
      lia,rfl⟩
    rw[eP,eW,eA,eX] at happ
    refine wpAny_mono happ (fun _ s8 h8=>?_) fun _ _ z=>z
    obtain⟨_,H8,J8,_,e8⟩:=h8
    subst e8
    have g17:=(g1.trans g5).trans g7
    refine⟨ds.length-(i+1),by lia,i+1,vs++[v7],es++[e1],_,Hf7,σ6,rfl,hlt,J8.unpinned,?_,fun b hb=>?_,Zu,hf7,⟨g17.fz,fun b o z=>?_,fun b o z=>?_,g17.ban⟩,?_,by rw[List.length_append,hl1];rfl,hl7,him7,hq2⟩
    ·exact T.keep _ _ _ st5 fun b hb o e=>(J8.pin (b,o) (List.mem_append_right _ (List.mem_append_right _ (Xp hb e)))).1
    ·obtain⟨o,e,_⟩:=T.obj _ _ st5 b hb
     exact(J8.pin (b,o) (List.mem_append_right _ (List.mem_append_right _ (Xp hb e)))).2.1
    ·have:b≠s2.heap.objs.size:=Z3 z hf7
     rw[Zn this];exact g17.sub b o z
    ·have:b≠s2.heap.objs.size:=Z3 z fresh
     rw[Zn this];exact g17.all b o z
    ·exact(rs1.mono (g5.fz.trans g7.fz)).append (Reps.cons rv7 Reps.nil)
  ·refine⟨0,[],[],_,Hf2,_,by simp,Nat.zero_le _,J0,T.keep 0 _ _ st2 fun b hb o e=>hold1 b o e,fun b hb=>?_,Zu,g2.sub.free fresh,⟨Same.refl _,fun b o z=>?_,Qs fresh _,fun _ _ z=>z⟩,Reps.nil,rfl,?_,fun j d z=>?_,?_⟩
   ·rw[Zn (nfp b hb)];exact(f2 b hb).1
   ·have:b≠s2.heap.objs.size:=Z3 (g2.sub b o z) fresh
    rw[Zn this];exact g2.sub b o z
   ·unfold U0;simp only[List.length_append,List.length_replicate,List.length_map]
   ·obtain⟨k,j',d',rfl,ej,es,ed⟩:=Dp z
    cases ed
    obtain⟨v,z1,z2⟩:=sr2.im j' d es
    refine⟨v,?_,z2⟩
    rw[List.getElem?_append_right (by simp),List.length_replicate,Nat.add_sub_cancel_left,List.getElem?_map,ej]
    simp[z1]
   ·have:∀r:M (List D),(r.bind fun fs=>.ok ([]++fs))=r:=fun r=>by cases r<;>simp
    rw[List.drop_zero,this]
    exact hq
 show codeAny (model X.prog X.w) X.A (.compStart (.ListComp elt [⟨tg,iter,[],0⟩] scope pos) 0 (.ref it) (.ref s2.heap.objs.size) (compEnvC scope cl (s2.heap.push Q9).objs.size X.env))
  (compPost (model X.prog X.w) X.A X.xe none (EP X pins σ Q) (.ref s2.heap.objs.size) (s2.heap.push Q9).objs.size) {s2 with heap:=h₁,toks:=s2.toks+([]:List (Str×Value)).length}
 rw[hC]
 exact codeAny_compStart_list (loop _ rfl) (T.self X.A 0 _ _ _ (T.keep 0 _ _ st2 fun b hb o e=>hold1 b o e) (loop _ rfl))
def Zkc {X:Cx}{Nc:List Str}{n0:Nat}{scope:Scope}(hn:Nc.length=n0)(h:∀y∈scope.names,y.2≠.cell/\y.2≠.free):CapOk X Nc n0 [] scope []:=by
 have key:∀(l:List (Str×NameKind)) (y:Str) (k:NameKind),(∀p∈l,p.2≠.cell/\p.2≠.free)->(l.map fun(n,k)=>if(k==NameKind.free&&X.env.scope.kind==.function&&X.env.kindOf n==some .cell) then(n,NameKind.cell) else(n,k)).lookup y=some k->k≠.cell/\k≠.free:=by
  intro l y k
  induction l with
  |nil=>intro _ e;cases e
  |cons p r ih=>
   intro hp e
   obtain⟨n,kk⟩:=p
   have h0:=hp (n,kk) List.mem_cons_self
   have hf:(kk==NameKind.free)=false:=by
    have:=h0.2
    cases kk<;>first|rfl|exact absurd rfl this
   rw[List.map_cons] at e
   simp only[hf,Bool.false_and,Bool.false_eq_true,if_false,List.lookup_cons] at e
   split at e
   ·cases e;exact h0
   ·exact ih (fun q hq=>hp q (List.mem_cons_of_mem _ hq)) e
 refine⟨fun y c e=>(nomatch e),fun y e=>?_,fun i j x _ e=>by simp at e,by simpa using hn⟩
 rcases e with e|e
 ·exact absurd rfl (key _ y _ h e).1
 ·exact absurd rfl (key _ y _ h e).2
section
variable {X:Cx}{E:XK}{pos:Pos}{a b:Expr}
def Rw (fs:Zi->M (List D))(sd:Zi):M (List D):=(fs sd).bind fun ds=>if few ds then .ok ds else .bad
def Kk {es:List Expr}{fs:Zi->M (List D)}(h:Bz X E es fs):Zi6 X E (.List es pos) (Rw fs):=by
 obtain⟨t,p,q⟩:=h
 refine⟨_,Df p,fun H0 B Hf sd σ H Q sr h=>?_⟩
 refine q H0 B Hf sd σ H _ sr (PoF.bind h fun ds vs Hf1 H1 _ g1 rs h1=>?_)
 split at h1
 ·rename_i hf
  refine⟨Vy hf rs,fun p hp=>h1 p vs Hf1 _ ⟨Same.refl _,g1.sub.trans (Qs hp _),Qs hp _,fun _ _ e=>e⟩ hp (g1.sub.free hp) Zu rs⟩
 ·exact h1.elim
def PoS.bindF {K:PySem.W.Frag}{E:XK}{H0 Hf H:Hp}{B:Addr->Prop}{sd:Zi}{σ:L2.St}{r:M (List D)}{k:List D->M O}{D':Ends}{Q1:VK}(sr:SR K H0 B Hf sd σ H)(h:PoS K E H0 B Hf (r.bind k) D')(s:∀ds p xs Hf1 H1,r=.ok ds->Gr Hf H Hf1 H1->SR K H0 B Hf1 sd σ H1->H p=none->Hf1 p=none->H1 p=some (.lst xs)->Reps K Hf1 ds xs->PoS K E H0 B Hf1 (k ds) D'->Q1 (.ref p) H1):PoF K E Hf H r Q1:=by
 cases r with
 |ok ds=>exact fun p xs Hf' H' g e1 e2 e3 e4=>s ds p xs Hf' H' rfl g (sr.gr g) e1 e2 e3 e4 (PoS.weak g.fz h)
 |ex x=>exact fun c dx Hf' H' g q=>h c dx Hf' H' g.fz (sr.gr g).fin q
 |bad=>exact h
def SR.set_new {K:PySem.W.Frag}{H0 Hf H H1:Hp}{B:Addr->Prop}{sd:Zi}{σ:L2.St}(r0:SR K H0 B Hf sd σ H){Hf1:Hp}(r:SR K H0 B Hf1 sd σ H1)(g:Same H H1)(i:Nat){p:Addr}{t:S}(hp:H p=none)(hf:Hf1 p=none)(ho:t.own=true)(h:S.at K Hf1 H1 p t):
  SR K H0 B Hf1 (sd.set i (some t)) (σ.set i (some (.ref p))) H1 where
 sub:=r.sub
 all:=r.all
 ban:=r.ban
 bt:=r.bt
 len:=by rw[List.length_set,List.length_set];exact r.len
 imS:=fun j d' e z=>by
  by_cases hj:i=j
  ·subst hj
   have hi:i<sd.length:=by
    have:=(List.getElem?_eq_some_iff.mp e).1;simpa using this
   rw[List.getElem?_set_self hi] at e
   cases e
   rw[ho] at z;cases z
  ·rw[List.getElem?_set_ne hj] at e ⊢
   exact r.imS j d' e z
 ow:=fun j u e hu=>by
  by_cases hj:i=j
  ·subst hj
   have hi:i<sd.length:=by
    have:=(List.getElem?_eq_some_iff.mp e).1;simpa using this
   rw[List.getElem?_set_self hi] at e
   cases e
   exact⟨p,by rw[List.getElem?_set_self (by rw[<-r.len];exact hi)],r0.all.free hp,hf,h⟩
  ·rw[List.getElem?_set_ne hj] at e ⊢
   exact r.ow j u e hu
 sep:=fun j k u w q hjk e1 o1 e2 o2 e3 e4=>by
  have new:∀{l:Nat},i=l->(σ.set i (some (V.ref p)))[l]?=some (some (.ref q))->q=p:=fun {l} z e=>by
   subst z
   have hi:i<σ.length:=by
    have:=(List.getElem?_eq_some_iff.mp e).1;simpa using this
   rw[List.getElem?_set_self hi] at e
   cases e;rfl
  have old:∀{l:Nat}{u:S},i≠l->(sd.set i (some t))[l]?=some (some u)->u.own=true->(σ.set i (some (V.ref p)))[l]?=some (some (.ref q))->q≠p:=fun {l u} n e ou z=>by
   rw[List.getElem?_set_ne n] at e z
   obtain⟨q',e1,_,_,e4⟩:=r0.ow l u e ou
   rw[z] at e1
   cases e1
   obtain⟨o,eo⟩:=Et e4
   exact Z3 eo hp
  by_cases n1:i=j
  ·have n2:i≠k:=fun z=>hjk (n1.symm.trans z)
   exact old n2 e2 o2 e4 (new n1 e3)
  ·by_cases n2:i=k
   ·exact old n1 e1 o1 e3 (new n2 e4)
   ·rw[List.getElem?_set_ne n1] at e1 e3
    rw[List.getElem?_set_ne n2] at e2 e4
    exact r.sep j k u w q hjk e1 o1 e2 o2 e3 e4
def Rx (i:Nat)(f:Zi->M (List D))(sd:Zi):M O:=(f sd).bind fun ds=>.ok (.nx (sd.set i (some (.ow ds))))
def Kl (i:Nat){x:Str}{e:Expr}{f:Zi->M (List D)}{pos':Pos}(hN:X.N.Nodup)(h:Zi6 X E e f)(hi:X.N[i]?=some x:=by rfl)(hx:Zde X.env.scope x:=by trivial)(hs:swapsWith e (some (.Name x pos')) pos.line X.env=pure false:=by rfl)(hf:X.fn x=true\/X.env.scope.names.lookup x=some .local:=by first|exact .inl rfl|exact .inr rfl|assumption):
  Tf X E (.Assign [.Name x pos'] e pos) (Rx i f):=by
 obtain⟨t,p,q⟩:=h
 refine⟨_,W1 hN hi hx p hs hf,fun H0 B Hf sd σ H D sr h=>?_⟩
 refine q H0 B Hf sd σ H _ sr (PoS.bindF sr h fun ds p xs Hf1 H1 _ g1 sr1 e1 e2 e3 e4 h1=>?_)
 exact h1 _ Hf1 H1 (Same.refl _) (sr.set_new sr1 g1.all i e1 e2 rfl ⟨xs,e3,e4⟩)
def Vt (i:Nat)(f:Zi->M D)(sd:Zi):M O:=match sd[i]? with
 |some (some (.ow ds))=>(f sd).bind fun d=>if few ds then .ok (.nx (sd.set i (some (.ow (ds++[d]))))) else .bad
 |_=>.bad
def Vf (i:Nat){x:Str}{e:Expr}{f:Zi->M D}{p1 p2 p3:Pos}(h:Xo X E e f)(hi:X.N[i]?=some x:=by rfl)(hv:Tg X.env.scope x:=by trivial)
  (hd:(x==("__debug__":Str))=false:=by decide) (hcd:(x==("__classdict__":Str))=false:=by decide)
  (hse:starEach [e] X.env=(false,eval e X.env)::starEach [] X.env:=by rfl)
  (hbase:attributeBase (.Name x p1) "append" X.env (eval (.Name x p1) X.env)=eval (.Name x p1) X.env:=by rfl)
  (hfew:((backTo p3 (starEach [e] X.env)).all (fun x=>!x.1)&&(backToKw p3 (keywordEach [] X.env)).all (fun x=>x.1.isSome)
   && decide ([e].length+([]:List Keyword).length+(if([]:List Keyword).isEmpty then 0 else 1)<30))=true:=by rfl)
  (hline:(p2.endLine==p3.line)=true:=by rfl) (hplain:(backTo p3 (starEach ([]:List Expr) X.env)).any (·.1)=false:=by rfl)
  (hsw:swapsWith (.Call (.Attribute (.Name x p1) "append" p2) [e] [] p3) none pos.line X.env=pure false:=by rfl):
  Tf X E (.Expr (.Call (.Attribute (.Name x p1) "append" p2) [e] [] p3) pos) (Vt i f):=by
 obtain⟨t,pt,q⟩:=h
 refine⟨_,Wq (Zam PySem.F.plainAttrs_list PySem.F.slot_list_append PySem.F.type_list_append Wr (Qc hi hv hd hcd) (Qo pt X7 hse) hbase hfew hline hse hplain) hsw,fun H0 B Hf sd σ H D sr h=>?_⟩
 unfold Vt at h
 split at h
 ·rename_i ds ei
  obtain⟨p,z1,z2,z3,xs,z4,z5⟩:=sr.ow i _ ei rfl
  refine⟨_,z1,.inl ⟨rfl,xs,SqL.of z4⟩,?_⟩
  refine q H0 B Hf sd σ H _ sr (PoS.bind sr h fun d v Hf1 H1 _ g1 sr1 rv h1=>?_)
  split at h1
  ·rename_i hf
   have z5':=z5.mono g1.fz
   have hl:xs.length<sizeLine:=by
    have h1:=of_decide_eq_true hf
    have h2:=sizeLine_eq
    rw[<-z5.length,h2];lia
   refine⟨p,xs,v,rfl,rfl,g1.all _ _ z4,hl,?_⟩
   exact h1 _ Hf1 _ (Same.refl _) (sr1.change ei rfl z1 rfl ⟨_,Zu,z5'.append (Reps.cons rv Reps.nil)⟩)
  ·exact h1.elim
 ·exact h.elim
def Am (i:Nat)(f:Zi->M (List D))(sd:Zi):M O:=match sd[i]? with
 |some (some (.ow ds))=>(f sd).bind fun es=>if few (ds++es) then .ok (.nx (sd.set i (some (.ow (ds++es))))) else .bad
 |_=>.bad
def E4 (i:Nat){x:Str}{e:Expr}{f:Zi->M (List D)}{p1 p2 p3:Pos}(h:Zi6 X E e f)(hi:X.N[i]?=some x:=by rfl)(hv:Tg X.env.scope x:=by trivial)
  (hd:(x==("__debug__":Str))=false:=by decide) (hcd:(x==("__classdict__":Str))=false:=by decide)
  (hse:starEach [e] X.env=(false,eval e X.env)::starEach [] X.env:=by rfl)
  (hbase:attributeBase (.Name x p1) "extend" X.env (eval (.Name x p1) X.env)=eval (.Name x p1) X.env:=by rfl)
  (hfew:((backTo p3 (starEach [e] X.env)).all (fun x=>!x.1)&&(backToKw p3 (keywordEach [] X.env)).all (fun x=>x.1.isSome)
   && decide ([e].length+([]:List Keyword).length+(if([]:List Keyword).isEmpty then 0 else 1)<30))=true:=by rfl)
  (hline:(p2.endLine==p3.line)=true:=by rfl) (hplain:(backTo p3 (starEach ([]:List Expr) X.env)).any (·.1)=false:=by rfl)
  (hsw:swapsWith (.Call (.Attribute (.Name x p1) "extend" p2) [e] [] p3) none pos.line X.env=pure false:=by rfl):
  Tf X E (.Expr (.Call (.Attribute (.Name x p1) "extend" p2) [e] [] p3) pos) (Am i f):=by
 obtain⟨t,pt,q⟩:=h
 refine⟨_,Wq (Zam PySem.F.plainAttrs_list PySem.F.slot_list_extend PySem.F.type_list_extend Ik (Qc hi hv hd hcd) (Qo pt X7 hse) hbase hfew hline hse hplain) hsw,fun H0 B Hf sd σ H D sr h=>?_⟩
 unfold Am at h
 split at h
 ·rename_i ds ei
  obtain⟨p,z1,z2,z3,xs,z4,z5⟩:=sr.ow i _ ei rfl
  refine⟨_,z1,.inl ⟨rfl,xs,SqL.of z4⟩,?_⟩
  refine q H0 B Hf sd σ H _ sr (PoS.bindF sr h fun es b ys Hf1 H1 _ g1 sr1 e1 e2 e3 e4 h1=>?_)
  split at h1
  ·rename_i hf
   have z5':=z5.mono g1.fz
   have hl:=Vy hf (z5'.append e4)
   rw[List.length_append] at hl
   refine⟨p,b,xs,ys,rfl,rfl,g1.all _ _ z4,e3,hl,?_⟩
   exact h1 _ Hf1 _ (Same.refl _) (sr1.change ei rfl z1 rfl ⟨_,Zu,z5'.append e4⟩)
  ·exact h1.elim
 ·exact h.elim
def An (i:Nat)(sd:Zi):M O:=match sd[i]? with
 |some (some (.ow ds))=>.ok (.rt (.ow ds))
 |_=>.bad
def Ry (i:Nat){x:Str}{p1:Pos}(hi:X.N[i]?=some x:=by rfl)(hv:Tg X.env.scope x:=by trivial)
  (hd:(x==("__debug__":Str))=false:=by decide) (hcd:(x==("__classdict__":Str))=false:=by decide):Tf X E (.Return (some (.Name x p1)) pos) (An i):=by
 refine⟨_,Nh (Qc hi hv hd hcd),fun H0 B Hf sd σ H D sr h=>?_⟩
 unfold An at h
 split at h
 ·rename_i ds ei
  obtain⟨p,z1,z2,z3,z4⟩:=sr.ow i _ ei rfl
  exact⟨_,z1,h _ Hf H (Same.refl _) sr.fin ⟨p,rfl,z2,z3,z4⟩⟩
 ·exact h.elim
def frz (i:Nat)(sd:Zi):Zi:=match sd[i]? with
 |some (some (.ow ds))=>sd.set i (some (.im (.lst ds)))
 |_=>sd
def Rz (i:Nat)(f:Zi->M O)(sd:Zi):M O:=f (frz i sd)
def Uh (i:Nat){st:List Stmt}{f:Zi->M O}(h:Nl X E st f):Nl X E st (Rz i f):=by
 obtain⟨t,p,q⟩:=h
 refine⟨t,p,fun H0 B Hf sd σ H D sr h=>?_⟩
 unfold Rz frz at h
 split at h
 ·rename_i ds ei
  obtain⟨Hf',e,sr'⟩:=sr.freeze ei
  exact q H0 B Hf' _ σ H D sr' (PoS.weak e h)
 ·exact q H0 B Hf sd σ H D sr h
theorem U9 {Xc:Cx}{pins:List (Addr×Obj)}{σ:L2.St}{H:Hp}{s:Shared}(I:Inv Xc pins σ H s)(dx:D)(e:Value->Bool)(he:∀d v u,Rep Xc.K H d v->RelV v u->e u=D.eq d dx):
  ∀{ds:List D}{xs:List V}{us:List Value},Reps Xc.K H ds xs->Vals xs us->us.any e=ds.any fun d=>D.eq d dx
 |[],xs,us,r,v=>by
  rw[reps_nil.mp r] at v
  cases v
  rfl
 |d::ds,xs,us,r,v=>by
  obtain⟨x,xr,rfl,r1,r2⟩:=reps_cons.mp r
  cases v with
  |cons v1 v2=>rw[List.any_cons,List.any_cons,he d x _ r1 v1,U9 I dx e he r2 v2]
def Ao {Xc:Cx}{H:Hp}{ds:List D}:∀{xs:List V}{us:List Value}{u:Value},Reps Xc.K H ds xs->Vals xs us->u∈us->∃d v,d∈ds/\Rep Xc.K H d v/\RelV v u:=by
 induction ds with
 |nil=>
  intro xs us u r v hu
  rw[reps_nil.mp r] at v
  cases v
  cases hu
 |cons d ds ih=>
  intro xs us u r v hu
  obtain⟨x,xr,rfl,r1,r2⟩:=reps_cons.mp r
  cases v with
  |cons v1 v2=>
   rcases List.mem_cons.mp hu with rfl|hu
   ·exact⟨d,x,List.mem_cons_self,r1,v1⟩
   ·obtain⟨d',v',h1,h2,h3⟩:=ih r2 v2 hu
    exact⟨d',v',List.mem_cons_of_mem _ h1,h2,h3⟩
def C8 (dx:D)(ds:List D):Bool:=ds.any fun d=>D.eq d dx
def Zkd (K:PySem.W.Frag)(neg:Bool):R2:=fun x y H Q=>∃dx ds,Rep K H dx x/\(Rep K H (.lst ds) y\/Rep K H (.tup ds) y)/\D.deps ds<=60/\Q (.bl (if neg then !C8 dx ds else C8 dx ds)) H
theorem R0:∀{ds:List D}{d:D},d∈ds->d.dep<=D.deps ds
 |e::ds,d,h=>by
  rw[D.deps]
  rcases List.mem_cons.mp h with rfl|h
  ·lia
  ·have:=R0 h;lia
open Classical in
theorem Zh3 (hu:X.A.units+64<cLine):OpR X (compareOp .In) (Zkd X.K false):=by
 intro pins s σ H x y v u Q I rx ry h
 obtain⟨dx,ds,hx,hy,hd,q⟩:=h
 let e:Value->Bool:=fun u=>decide (∃d v,Rep X.K H d v/\RelV v u/\D.eq d dx=true)
 have he:∀d v u,Rep X.K H d v->RelV v u->e u=D.eq d dx:=fun d v u r1 r2=>by
  cases z:D.eq d dx with
  |true=>exact decide_eq_true ⟨d,v,r1,r2,z⟩
  |false=>
   refine decide_eq_false ?_
   rintro⟨d',v',a1,a2,a3⟩
   have e1:v'=v:=RelV.inj a2 r2
   subst e1
   rw[Gm I d d' _ r1 a1,a3] at z
   cases z
 have each:∀{xs:List V}{us:List Value},Reps X.K H ds xs->Vals xs us->∀w∈us,SeqAt.EqAt X.A.in1 s w v (e w):=fun {xs us} r1 r2 w hw=>by
  obtain⟨d,z,m1,m2,m3⟩:=Ao r1 r2 hw
  rw[he d z w m2 m3]
  refine(Rr I d dx X.A.in1 z x w v ?_ m2 hx m3 rx).eq
  have:=R0 m1
  show X.A.units+1+_<_
  lia
 rcases hy with hy|hy
 ·obtain⟨p,xs,rfl,hp,hr⟩:=rep_lst.mp hy
  cases ry
  obtain⟨its,r,pl,hz⟩:=I.list hp
  refine SeqAt.in_listAt e pl.isList (fun w hw=>each hr r w (by simpa using hw)) ⟨.bl _,H,I,rfl,?_⟩
  rw[show its.toArray.any e=its.any e by simp,U9 I dx e he hr r]
  exact q
 ·obtain⟨p,xs,rfl,hp,hr⟩:=Qm hy
  cases ry
  obtain⟨its,r,pl,hz⟩:=I.tuple hp
  refine SeqAt.in_tupleAt e pl (fun w hw=>each hr r w (by simpa using hw)) ⟨.bl _,H,I,rfl,?_⟩
  rw[show its.toArray.any e=its.any e by simp,U9 I dx e he hr r]
  exact q
open Classical in
theorem Iz (hu:X.A.units+64<cLine):OpR X (compareOp .NotIn) (Zkd X.K true):=by
 intro pins s σ H x y v u Q I rx ry h
 obtain⟨dx,ds,hx,hy,hd,q⟩:=h
 let e:Value->Bool:=fun u=>decide (∃d v,Rep X.K H d v/\RelV v u/\D.eq d dx=true)
 have he:∀d v u,Rep X.K H d v->RelV v u->e u=D.eq d dx:=fun d v u r1 r2=>by
  cases z:D.eq d dx with
  |true=>exact decide_eq_true ⟨d,v,r1,r2,z⟩
  |false=>
   refine decide_eq_false ?_
   rintro⟨d',v',a1,a2,a3⟩
   have e1:v'=v:=RelV.inj a2 r2
   subst e1
   rw[Gm I d d' _ r1 a1,a3] at z
   cases z
 have each:∀{xs:List V}{us:List Value},Reps X.K H ds xs->Vals xs us->∀w∈us,SeqAt.EqAt X.A.in1 s w v (e w):=fun {xs us} r1 r2 w hw=>by
  obtain⟨d,z,m1,m2,m3⟩:=Ao r1 r2 hw
  rw[he d z w m2 m3]
  refine(Rr I d dx X.A.in1 z x w v ?_ m2 hx m3 rx).eq
  have:=R0 m1
  show X.A.units+1+_<_
  lia
 rcases hy with hy|hy
 ·obtain⟨p,xs,rfl,hp,hr⟩:=rep_lst.mp hy
  cases ry
  obtain⟨its,r,pl,hz⟩:=I.list hp
  refine SeqAt.notIn_listAt e pl.isList (fun w hw=>each hr r w (by simpa using hw)) ⟨.bl _,H,I,rfl,?_⟩
  rw[show its.toArray.any e=its.any e by simp,U9 I dx e he hr r]
  exact q
 ·obtain⟨p,xs,rfl,hp,hr⟩:=Qm hy
  cases ry
  obtain⟨its,r,pl,hz⟩:=I.tuple hp
  refine SeqAt.notIn_tupleAt e pl (fun w hw=>each hr r w (by simpa using hw)) ⟨.bl _,H,I,rfl,?_⟩
  rw[show its.toArray.any e=its.any e by simp,U9 I dx e he hr r]
  exact q
def Zee:D->D->M D
 |x,.lst ds=>if D.deps ds<=60 then .ok (.bl (C8 x ds)) else .bad
 |x,.tup ds=>if D.deps ds<=60 then .ok (.bl (C8 x ds)) else .bad
 |_,_=>.bad
def R1:D->D->M D
 |x,.lst ds=>if D.deps ds<=60 then .ok (.bl (!C8 x ds)) else .bad
 |x,.tup ds=>if D.deps ds<=60 then .ok (.bl (!C8 x ds)) else .bad
 |_,_=>.bad
def Za3 (hu:X.A.units+64<cLine):P6 X E (compareOp .In) Zee:=by
 refine⟨_,Zh3 hu,fun Hf H x y dx dy Q e rx ry q=>?_⟩
 unfold Zee at q
 split at q
 ·split at q
  ·rename_i hd
   exact⟨_,_,rx.mono e,.inl (ry.mono e),hd,Po.ret e q (rep_bl.mpr rfl)⟩
  ·exact q.elim
 ·split at q
  ·rename_i hd
   exact⟨_,_,rx.mono e,.inr (ry.mono e),hd,Po.ret e q (rep_bl.mpr rfl)⟩
  ·exact q.elim
 ·exact q.elim
def Za4 (hu:X.A.units+64<cLine):P6 X E (compareOp .NotIn) R1:=by
 refine⟨_,Iz hu,fun Hf H x y dx dy Q e rx ry q=>?_⟩
 unfold R1 at q
 split at q
 ·split at q
  ·rename_i hd
   exact⟨_,_,rx.mono e,.inl (ry.mono e),hd,Po.ret e q (rep_bl.mpr rfl)⟩
  ·exact q.elim
 ·split at q
  ·rename_i hd
   exact⟨_,_,rx.mono e,.inr (ry.mono e),hd,Po.ret e q (rep_bl.mpr rfl)⟩
  ·exact q.elim
 ·exact q.elim
def D.isN:D->Bool
 |.non=>true
 |_=>false
def Ap:D->D->M D
 |x,.non=>.ok (.bl x.isN)
 |_,_=>.bad
def Xl:D->D->M D
 |x,.non=>.ok (.bl (!x.isN))
 |_,_=>.bad
def E5 {K:PySem.W.Frag}{H:Hp}{d:D}{v:V}(r:Rep K H d v):decide (v=.non)=d.isN:=by
 cases d with
 |non=>rw[rep_non.mp r];rfl
 |bl b=>rw[rep_bl.mp r];rfl
 |int b=>rw[rep_int.mp r];rfl
 |str b=>rw[rep_str.mp r];rfl
 |tup b=>obtain⟨_,_,e,_⟩:=rep_tup.mp r;rw[e];rfl
 |lst b=>obtain⟨_,_,e,_⟩:=rep_lst.mp r;rw[e];rfl
def Ms:P6 X E (compareOp .Is) Ap:=by
 refine⟨_,Zg9,fun Hf H x y dx dy Q e rx ry q=>?_⟩
 unfold Ap at q
 split at q
 ·exact⟨rep_non.mp ry,Po.ret e q (by rw[E5 rx];exact rep_bl.mpr rfl)⟩
 ·exact q.elim
def V3:P6 X E (compareOp .IsNot) Xl:=by
 refine⟨_,Zdr,fun Hf H x y dx dy Q e rx ry q=>?_⟩
 unfold Xl at q
 split at q
 ·exact⟨rep_non.mp ry,Po.ret e q (by rw[E5 rx];exact rep_bl.mpr rfl)⟩
 ·exact q.elim
end
section
variable {X:Cx}{pins:List (Addr×Obj)}{σ:L2.St}{H:Hp}{s:Shared}{h':Heap}{t':Nat}{fp:List Addr}
def _root_.L2.Inv.turnedT {T:Addr}{o:HO}(I:Inv X pins σ H s)(hf:∀b∈fp,Pn X pins H b)(k:∀b u,b ∉ fp->s.heap.get? b=some u->h'.get? b=some u)(hT:s.heap.objs.size<=T)(new:ObjOk X.prog X.w (upd H T o) h' T o):
  Inv X pins σ (upd H T o) {s with heap:=h',toks:=t'}:=by
 have hn:=I.hok.fresh hT
 have ne:∀b u,s.heap.get? b=some u->b≠T:=fun b u e=>Nat.ne_of_lt (Nat.lt_of_lt_of_le (Heap.lt_size e) hT)
 refine I.step (g':=s.gens) (d':=s.drawn) (ch:=fp) (fun b hb=>?_) (fun b u _ _ hc e _=>k b u hc e) (fun b u _ _ hc e _=>⟨u.slots,k b u hc e⟩) (fun b u _ e n=>by rw[Zn (ne b u e)];exact n) (fun b u hc e=>⟨u,k b u hc e⟩)
  (fun b xs e=>by rw[Zn (Z3 e hn)];exact e) (fun b u xs e=>by rw[Zn (Z3 e hn)];exact e) (fun b l c q e=>by rw[Zn (Z3 e hn)];exact e) (fun m hm=>?_) (fun b u e=>?_) I.bare
 ·obtain⟨f0,f1,f2,f3,f4,f5⟩:=hf b hb
  exact⟨f3,f1,f4,f5⟩
 ·obtain⟨ob,es,ep,ho,r⟩:=hm
  exact⟨ob,es,ep,k _ ob (fun z=>(hf _ z).2.1 rfl) ho,r⟩
 ·by_cases hb:b=T
  ·subst hb;rw[Zu] at e;cases e;exact new
  ·rw[Zn hb] at e
   have nf:∀c v,H c=some v->c ∉ fp:=fun c v e z=>by rw[(hf c z).1] at e;cases e
   refine(I.hok b u e).stay (fun c v hc q=>k c v ?_ q) (fun c q=>by rw[Zn (Z3 q hn)];exact q) (fun c xs q=>by rw[Zn (Z3 q hn)];exact q) fun c _ _ q=>by rw[Zn (Z3 q hn)];exact q
   rcases hc with rfl|hc
   ·exact nf _ _ e
   ·exact nf _ _ hc
def _root_.L2.Inv.turnedF (I:Inv X pins σ H s)(hf:∀b∈fp,Pn X pins H b)(k:∀b u,b ∉ fp->s.heap.get? b=some u->h'.get? b=some u):Inv X pins σ H {s with heap:=h',toks:=t'}:=by
 refine I.step (g':=s.gens) (d':=s.drawn) (ch:=fp) (fun b hb=>?_) (fun b u _ _ hc e _=>k b u hc e) (fun b u _ _ hc e _=>⟨u.slots,k b u hc e⟩) (fun b u _ e n=>n) (fun b u hc e=>⟨u,k b u hc e⟩)
  (fun b xs e=>e) (fun b u xs e=>e) (fun _ _ _ _ e=>e) (fun m hm=>?_) (fun b u e=>?_) I.bare
 ·obtain⟨f0,f1,f2,f3,f4,f5⟩:=hf b hb
  exact⟨f3,f1,f4,f5⟩
 ·obtain⟨ob,es,ep,ho,r⟩:=hm
  exact⟨ob,es,ep,k _ ob (fun z=>(hf _ z).2.1 rfl) ho,r⟩
 ·have nf:∀c v,H c=some v->c ∉ fp:=fun c v e z=>by rw[(hf c z).1] at e;cases e
  refine(I.hok b u e).stay (fun c v hc q=>k c v ?_ q) (fun c q=>q) (fun c xs q=>q) fun _ _ _ q=>q
  rcases hc with rfl|hc
  ·exact nf _ _ e
  ·exact nf _ _ hc
end
structure ZA (z TI TO i1 i2:Addr):Prop where
 TIz:TI≠z
 TOz:TO≠z
 i1z:i1≠z
 i2z:i2≠z
 TITO:TI≠TO
 TIi1:TI≠i1
 TIi2:TI≠i2
 TOi1:TO≠i1
 TOi2:TO≠i2
 i12:i1≠i2
def Znc (n:Nat):ZA (n+4) (n+2) (n+3) n (n+1):=
 ⟨Nat.ne_of_lt (by lia),Nat.ne_of_lt (by lia),Nat.ne_of_lt (by lia),Nat.ne_of_lt (by lia),Nat.ne_of_lt (by lia),Nat.ne_of_gt (by lia),Nat.ne_of_gt (by lia),Nat.ne_of_gt (by lia),Nat.ne_of_gt (by lia),Nat.ne_of_lt (by lia)⟩
section
variable {X:Cx}{E:XK}{pos p p2:Pos}{es:List Expr}{k:Nat}
def Aq:List D->List D->List D:=List.zipWith fun x y=>.tup [x,y]
def Za5 (xs ys:List D)(i:Nat):(Aq xs ys)[i]?=match xs[i]?,ys[i]? with
  |some x,some y=>some (.tup [x,y])
  |_,_=>none:=by
 unfold Aq
 rw[List.getElem?_zipWith]
 cases xs[i]?<;>cases ys[i]?<;>rfl
def Zef (fs:Zi->M (List D))(sd:Zi):M (List D):=(fs sd).bind fun ds=>match ds with
 |[.lst xs,.lst ys]=>.ok (Aq xs ys)
 |_=>.bad
end
def Zeg:D->Option Yo
 |.int i=>some (.inl i)
 |.str x=>some (.inr x)
 |_=>none
def K1:List D->Option (List Yo)
 |[]=>some []
 |d::r=>match Zeg d,K1 r with
  |some k,some ks=>some (k::ks)
  |_,_=>none
def Za6 {K:PySem.W.Frag}{H:Hp}{d:D}{k:Yo}{v:V}(e:Zeg d=some k)(r:Rep K H d v):v=kV k:=by
 cases d with
 |int i=>cases e;exact rep_int.mp r
 |str x=>cases e;exact rep_str.mp r
 |non=>cases e
 |bl _=>cases e
 |tup _=>cases e
 |lst _=>cases e
theorem R3 {K:PySem.W.Frag}{H:Hp}:∀{ds:List D}{ks:List Yo}{vs:List V},K1 ds=some ks->Reps K H ds vs->vs=ks.map kV
 |[],ks,vs,e,r=>by cases e;rw[reps_nil.mp r];rfl
 |d::ds,ks,vs,e,r=>by
  obtain⟨x,xr,rfl,r1,r2⟩:=reps_cons.mp r
  unfold K1 at e
  split at e
  ·rename_i k ks' e1 e2
   cases e
   rw[Za6 e1 r1,R3 e2 r2]
   rfl
  ·cases e
def Za7 {κ:Type}[DecidableEq κ](kvs:List (κ×D))(k:κ)(d:D):List (κ×D):=
 if(kvs.any fun kv=>decide (kv.1=k))=true then kvs.map (fun kv=>if kv.1=k then(kv.1,d) else kv) else kvs++[(k,d)]
def Y3 {κ:Type}[DecidableEq κ](kvs:List (κ×D))(k:κ):Option D:=(kvs.find? fun kv=>decide (kv.1=k)).map (·.2)
section
variable {κ:Type} [DecidableEq κ]
variable {K:PySem.W.Frag}{H:Hp}
theorem RepKV.any {kvs:List (κ×D)}{ys:List (κ×V)}(r:RepKV K H kvs ys)(k:κ):(kvs.any fun kv=>decide (kv.1=k))=(ys.any fun kv=>decide (kv.1=k)):=by
 unfold RepKV at r
 induction r with
 |nil=>rfl
 |cons h t ih=>rw[List.any_cons,List.any_cons,ih,h.1]
def RepKV.get {kvs:List (κ×D)}{ys:List (κ×V)}(r:RepKV K H kvs ys)(k:κ){d:D}(e:Y3 kvs k=some d):∃v,Xy ys k=some v/\Rep K H d v:=by
 unfold RepKV at r
 induction r with
 |nil=>cases e
 | @cons p q ps qs h t ih=>
  by_cases hk:p.1=k
  ·have e1:Y3 (p::ps) k=some p.2:=by simp[Y3,List.find?_cons,hk]
   rw[e1] at e
   cases e
   exact⟨q.2,Y9 (h.1▸hk),h.2⟩
  ·have e1:Y3 (p::ps) k=Y3 ps k:=by simp[Y3,List.find?_cons,hk]
   rw[e1] at e
   obtain⟨v,h1,h2⟩:=ih e
   exact⟨v,by rw[Yy (fun z=>hk (h.1.trans z))];exact h1,h2⟩
theorem RepKV.none {kvs:List (κ×D)}{ys:List (κ×V)}(r:RepKV K H kvs ys)(k:κ)(e:Y3 kvs k=.none):Xy ys k=.none:=by
 unfold RepKV at r
 induction r with
 |nil=>rfl
 | @cons p q ps qs h t ih=>
  by_cases hk:p.1=k
  ·have e1:Y3 (p::ps) k=some p.2:=by simp[Y3,List.find?_cons,hk]
   rw[e1] at e
   cases e
  ·have e1:Y3 (p::ps) k=Y3 ps k:=by simp[Y3,List.find?_cons,hk]
   rw[e1] at e
   rw[Yy (fun z=>hk (h.1.trans z))];exact ih e
def RepKV.repl {kvs:List (κ×D)}{ys:List (κ×V)}(r:RepKV K H kvs ys)(k:κ){d:D}{v:V}(h:Rep K H d v):RepKV K H (kvs.map fun kv=>if kv.1=k then(kv.1,d) else kv) (ys.map fun kv=>if kv.1=k then(kv.1,v) else kv):=by
 unfold RepKV at r ⊢
 induction r with
 |nil=>exact .nil
 | @cons p q ps qs hp t ih=>
  refine .cons ?_ ih
  show(if p.1=k then(p.1,d) else p).1=(if q.1=k then(q.1,v) else q).1/\Rep K H (if p.1=k then(p.1,d) else p).2 (if q.1=k then(q.1,v) else q).2
  by_cases hk:p.1=k
  ·rw[if_pos hk,if_pos (hp.1▸hk)];exact⟨hp.1,h⟩
  ·rw[if_neg hk,if_neg (fun z=>hk (hp.1.trans z))];exact hp
def RepKV.put {kvs:List (κ×D)}{ys:List (κ×V)}(r:RepKV K H kvs ys)(k:κ){d:D}{v:V}(h:Rep K H d v):RepKV K H (Za7 kvs k d) (Jx ys k v):=by
 unfold Za7 Jx
 rw[r.any k]
 split
 ·exact r.repl k h
 ·exact Paired.snoc r ⟨rfl,h⟩
theorem RepKV.length {kvs:List (κ×D)}{ys:List (κ×V)}(r:RepKV K H kvs ys):kvs.length=ys.length:=Paired.length r
end
section
variable {X:Cx}{E:XK}{pos p1 p2 pos':Pos}{key value:Expr}{x:Str}
def Mt {K:PySem.W.Frag}{Hf H:Hp}{ds:List D}{ks:List Yo}{y:V}(e:K1 ds=some ks)(sub:Same Hf H)(r:Rep K Hf (.tup ds) y):∃b,y=.ref b/\H b=some (.tup (ks.map kV)):=by
 obtain⟨b,xs,rfl,hb,hr⟩:=rep_tup.mp r
 rw[R3 e hr] at hb
 exact⟨b,rfl,sub _ _ hb⟩
end
def Zf5:D->Bool
 |.non=>true
 |.bl _=>true
 |.int _=>true
 |.str _=>true
 |_=>false
def Za8 {K:PySem.W.Frag}{H H':Hp}{d:D}{v:V}(h:Zf5 d=true)(r:Rep K H d v):Rep K H' d v:=by
 cases d with
 |non=>exact rep_non.mpr (rep_non.mp r)
 |bl _=>exact rep_bl.mpr (rep_bl.mp r)
 |int _=>exact rep_int.mpr (rep_int.mp r)
 |str _=>exact rep_str.mpr (rep_str.mp r)
 |tup _=>cases h
 |lst _=>cases h
def E6 (i:Nat)(f:Zi->M D)(sd:Zi):M D:=match f (frz i sd) with
 |.ok d=>if Zf5 d then .ok d else .bad
 |_=>.bad
def R4 (i:Nat)(f:Zi->M Bool)(sd:Zi):M Bool:=match f (frz i sd) with
 |.ok b=>.ok b
 |_=>.bad
section
variable {X:Cx}{E:XK}{e:Expr}
def Za9 {K:PySem.W.Frag}{H0 Hf H:Hp}{B:Addr->Prop}{sd:Zi}{σ:L2.St}(sr:SR K H0 B Hf sd σ H)(i:Nat):∃Hf',Same Hf Hf'/\SR K H0 B Hf' (frz i sd) σ H:=by
 unfold frz
 split
 ·rename_i ds ei
  exact sr.freeze ei
 ·exact⟨Hf,Same.refl _,sr⟩
def Zeh (i:Nat){f:Zi->M D}(h:Xo X E e f):Xo X E e (E6 i f):=by
 obtain⟨t,p,q⟩:=h
 refine⟨t,p,fun H0 B Hf sd σ H Q sr h=>?_⟩
 obtain⟨Hf',e1,sr'⟩:=Za9 sr i
 refine q H0 B Hf' _ σ H Q sr' ?_
 unfold E6 at h
 cases ef:f (frz i sd) with
 |ok d=>
  rw[ef] at h
  dsimp only at h
  split at h
  ·rename_i hfl
   exact fun v Hf2 H2 g r=>h v Hf H2 ⟨Same.refl _,sr.sub.trans g.all,g.all,fun _ _ z=>z⟩ (Za8 hfl r)
  ·exact h.elim
 |ex x=>rw[ef] at h;exact h.elim
 |bad=>rw[ef] at h;exact h.elim
def Zba (i:Nat){f:Zi->M Bool}(h:B0 X E e f):B0 X E e (R4 i f):=by
 obtain⟨t,p,q⟩:=h
 refine⟨t,p,fun H0 B Hf sd σ H Q sr h=>?_⟩
 obtain⟨Hf',e1,sr'⟩:=Za9 sr i
 refine q H0 B Hf' _ σ H Q sr' ?_
 unfold R4 at h
 cases ef:f (frz i sd) with
 |ok d=>
  rw[ef] at h
  exact fun v Hf2 H2 g r=>h v Hf H2 ⟨Same.refl _,sr.sub.trans g.all,g.all,fun _ _ z=>z⟩ r
 |ex x=>rw[ef] at h;exact h.elim
 |bad=>rw[ef] at h;exact h.elim
end
def Nu (cells:List (Str×Addr)):List (Str×NameKind)->List (Str×Addr)->List (Str×Addr)
 |[],acc=>acc
 |(n,k)::r,acc=>if k==NameKind.free then(match cells.lookup n with
  |some c=>Nu cells r ((n,c)::acc)
  |none=>Nu cells r acc) else Nu cells r acc
theorem Go (cells:List (Str×Addr)):∀(names:List (Str×NameKind)) (acc:List (Str×Addr)),(∀p∈acc,cells.lookup p.1=some p.2)->∀p∈Nu cells names acc,cells.lookup p.1=some p.2
 |[],acc,h=>h
 |(n,k)::r,acc,h=>by
  unfold Nu
  split
  ·split
   ·rename_i c hc
    refine Go cells r _ fun p hp=>?_
    rcases List.mem_cons.mp hp with rfl|hp
    ·exact hc
    ·exact h p hp
   ·exact Go cells r acc h
  ·exact Go cells r acc h
theorem Wt (cells:List (Str×Addr)):∀(names:List (Str×NameKind)) (acc:List (Str×Addr)),∀p∈acc,p∈Nu cells names acc
 |[],acc,p,h=>h
 |(n,k)::r,acc,p,h=>by
  unfold Nu
  split
  ·split
   ·exact Wt cells r _ p (List.mem_cons_of_mem _ h)
   ·exact Wt cells r acc p h
  ·exact Wt cells r acc p h
theorem Gq (cells:List (Str×Addr)):∀(names:List (Str×NameKind)) (acc:List (Str×Addr)) (n:Str) (c:Addr),(n,NameKind.free)∈names->cells.lookup n=some c->(n,c)∈Nu cells names acc
 |[],_,_,_,h,_=>by cases h
 |(m,k)::r,acc,n,c,h,hc=>by
  unfold Nu
  rcases List.mem_cons.mp h with h|h
  ·cases h
   rw[if_pos (by decide),hc]
   exact Wt cells r _ _ List.mem_cons_self
  ·split
   ·split
    ·exact Gq cells r _ n c h hc
    ·exact Gq cells r _ n c h hc
   ·exact Gq cells r _ n c h hc
def R5 {β:Type}:∀{l:List (Str×β)}{n:Str}{c:β},l.lookup n=some c->(n,c)∈l:=fun h=>PySem.mem_of_lookup h
theorem Pi {β:Type}:∀{l:List (Str×β)}{n:Str}{c:β},(n,c)∈l->∃d,l.lookup n=some d
 |[],_,_,h=>by cases h
 |(m,d)::r,n,c,h=>by
  rw[List.lookup_cons]
  by_cases e:n=m
  ·subst e;exact⟨d,by simp⟩
  ·have e':(n==m)=false:=beq_eq_false_iff_ne.mpr e
   rw[e']
   rcases List.mem_cons.mp h with h|h
   ·cases h;exact absurd rfl e
   ·exact Pi h
def Ui {scope:Scope}{env:Env}(h:∀y∈scope.names,y.2=.free->∃c,env.cells.lookup y.1=some c):closureFor scope env=pure (Nu env.cells scope.names []):=by
 have key:∀(names:List (Str×NameKind)) (acc:List (Str×Addr)),(∀y∈names,y.2=.free->∃c,env.cells.lookup y.1=some c) ->
   (forIn names acc fun(x:Str×NameKind) (cs:List (Str×Addr))=>(do
    if x.2==.free then
     let c <-cellOf env x.1
     pure (ForInStep.yield ((x.1,c)::cs))
    else pure (ForInStep.yield cs):Sem _))=pure (Nu env.cells names acc):=by
  intro names
  induction names with
  |nil=>intro acc _;rfl
  |cons y r ih=>
   intro acc hy
   obtain⟨n,k⟩:=y
   rw[List.forIn_cons]
   unfold Nu
   by_cases hk:(k==NameKind.free)=true
   ·obtain⟨c,hc⟩:=hy (n,k) List.mem_cons_self (by simpa using hk)
    have e1:cellOf env n=pure c:=by unfold cellOf;rw[hc]
    simp only[hk,if_true,e1,hc,pure_bind]
    exact ih _ fun z hz=>hy z (List.mem_cons_of_mem _ hz)
   ·simp only[hk,Bool.false_eq_true,if_false,pure_bind]
    exact ih _ fun z hz=>hy z (List.mem_cons_of_mem _ hz)
 have e:=key scope.names [] h
 unfold closureFor
 simp only[bind_pure]
 exact e
def Zei {X:Cx}{Nc:List Str}{n0:Nat}{caps:List Nat}{scope sc:Scope}(hsc:X.env.scope=sc)(hkf:sc.kind=.function)(hcell:∀y∈scope.names,y.2≠.cell)(hfree:∀y∈scope.names,y.2=.free->sc.names.lookup y.1=some .cell)(hcl:∀y∈scope.names,y.2=.free->∃c,X.env.cells.lookup y.1=some c)(hl:Nc.length=n0+caps.length)(hcap:∀(i j:Nat) (x:Str),Nc[n0+i]?=some x->caps[i]?=some j->X.N[j]?=some x/\scope.names.lookup x=some .free):CapOk X Nc n0 caps scope (Nu X.env.cells scope.names []):=by
 have frees:∀(l:List (Str×NameKind)) (y:Str),(∀p∈l,p.2≠.cell)->(∀p∈l,p.2=.free->sc.names.lookup p.1=some .cell) ->
   ((l.map fun(n,k)=>if(k==NameKind.free&&X.env.scope.kind==.function&&X.env.kindOf n==some .cell) then(n,NameKind.cell) else(n,k)).lookup y=some .cell\/(l.map fun(n,k)=>if(k==NameKind.free&&X.env.scope.kind==.function&&X.env.kindOf n==some .cell) then(n,NameKind.cell) else(n,k)).lookup y=some .free)->(y,NameKind.free)∈l:=by
  intro l y
  induction l with
  |nil=>intro _ _ e;rcases e with e|e<;>cases e
  |cons p r ih=>
   intro h1 h2 e
   obtain⟨n,k⟩:=p
   have c1:=h1 (n,k) List.mem_cons_self
   rw[List.map_cons,List.lookup_cons] at e
   have hfst:(if(k==NameKind.free&&X.env.scope.kind==.function&&X.env.kindOf n==some .cell) then(n,NameKind.cell) else(n,k)).1=n:=by split<;>rfl
   by_cases ey:y=n
   ·subst ey
    simp only[hfst,beq_self_eq_true] at e
    by_cases hk:k=.free
    ·subst hk;exact List.mem_cons_self
    ·have hk':(k==NameKind.free)=false:=beq_eq_false_iff_ne.mpr hk
     simp only[hk',Bool.false_and,Bool.false_eq_true,if_false] at e
     rcases e with e|e
     ·cases e;exact absurd rfl c1
     ·cases e;exact absurd rfl hk
   ·have ey':(y==n)=false:=beq_eq_false_iff_ne.mpr ey
    simp only[hfst,ey'] at e
    exact List.mem_cons_of_mem _ (ih (fun p hp=>h1 p (List.mem_cons_of_mem _ hp)) (fun p hp=>h2 p (List.mem_cons_of_mem _ hp)) e)
 refine⟨fun y c e=>Go _ _ [] (fun p hp=>by cases hp) _ (R5 e),fun y e=>?_,fun i j x e1 e2=>?_,hl⟩
 ·have hm:=frees scope.names y hcell hfree e
  obtain⟨c,hc⟩:=hcl _ hm rfl
  obtain⟨d,hd⟩:=Pi (Gq X.env.cells scope.names [] y c hm hc)
  exact⟨d,hd⟩
 ·obtain⟨a1,a2⟩:=hcap i j x e1 e2
  have a3:=hfree _ (R5 a2) rfl
  refine⟨a1,by rw[hsc];exact a3,?_⟩
  have rl:∀(l:List (Str×NameKind)),l.lookup x=some .free->(l.map fun(n,k)=>if(k==NameKind.free&&X.env.scope.kind==.function&&X.env.kindOf n==some .cell) then(n,NameKind.cell) else(n,k)).lookup x=some .cell:=by
   intro l
   induction l with
   |nil=>intro e;cases e
   |cons p r ih=>
    intro e
    obtain⟨n,k⟩:=p
    rw[List.map_cons,List.lookup_cons]
    rw[List.lookup_cons] at e
    have hfst:(if(k==NameKind.free&&X.env.scope.kind==.function&&X.env.kindOf n==some .cell) then(n,NameKind.cell) else(n,k)).1=n:=by split<;>rfl
    by_cases ex:x=n
    ·subst ex
     simp only[beq_self_eq_true] at e
     cases e
     have c3:X.env.kindOf x=some .cell:=by show X.env.scope.names.lookup x=_;rw[hsc];exact a3
     have c4:X.env.scope.kind=.function:=by rw[hsc];exact hkf
     simp only[hfst,beq_self_eq_true,c3,c4,Bool.and_true,if_true]
    ·have ex':(x==n)=false:=beq_eq_false_iff_ne.mpr ex
     simp only[ex'] at e
     simp only[hfst,ex']
     exact ih e
  exact rl _ a2
def Zke (sc names:List (Str×NameKind)):Bool:=names.all fun y=>!(decide (y.2=NameKind.free))||decide (sc.lookup y.1=some NameKind.cell)
def Pv {sc scope:Scope}(h:Zke sc.names scope.names=true):∀y∈scope.names,y.2=.free->sc.names.lookup y.1=some .cell:=fun y hy hf=>by
 have:=List.all_eq_true.mp h y hy
 rw[Bool.or_eq_true] at this
 rcases this with z|z
 ·rw[decide_eq_true hf] at z;cases z
 ·exact of_decide_eq_true z
def Zbb (N:List Str)(names:List (Str×NameKind)):List Str->List Nat->Bool
 |x::xs,j::js=>decide (N[j]?=some x)&&decide (names.lookup x=some NameKind.free)&&Zbb N names xs js
 |_,_=>true
theorem Ar {N:List Str}{names:List (Str×NameKind)}:∀{xs:List Str}{js:List Nat},Zbb N names xs js=true->∀(i j:Nat) (x:Str),xs[i]?=some x->js[i]?=some j->N[j]?=some x/\names.lookup x=some .free
 |[],_,_,i,_,_,e,_=>by simp at e
 |_::_,[],_,i,_,_,_,e=>by simp at e
 |x::xs,j::js,h,0,j',x',e1,e2=>by
  unfold Zbb at h
  rw[Bool.and_eq_true,Bool.and_eq_true] at h
  simp at e1 e2
  subst e1 e2
  exact⟨of_decide_eq_true h.1.1,of_decide_eq_true h.1.2⟩
 |x::xs,j::js,h,i+1,j',x',e1,e2=>by
  unfold Zbb at h
  rw[Bool.and_eq_true] at h
  exact Ar h.2 i j' x' (by simpa using e1) (by simpa using e2)
def P7 {X:Cx}{N:List Str}{Nc:List Str}{n0:Nat}{caps:List Nat}{scope:Scope}(hN:X.N=N)(h:Zbb N scope.names (Nc.drop n0) caps=true):
  ∀(i j:Nat) (x:Str),Nc[n0+i]?=some x->caps[i]?=some j->X.N[j]?=some x/\scope.names.lookup x=some .free:=fun i j x e1 e2=>by
 rw[hN]
 exact Ar h i j x (by rw[List.getElem?_drop];exact e1) e2
section
variable {X:Cx}{E:XK}{pos p p1 p2:Pos}{a e:Expr}{x:Str}
def Zl4 (X:Cx)(E:XK)(f:Value->Sem Value)(g:D->M D):Prop:=
 ∃r,Zk8 X f r/\∀(Hf H:Hp) (x:V) (dx:D) (Q:VK),Same Hf H->Rep X.K Hf dx x->Po X.K E (rV X.K) Hf H (g dx) Q->r x H Q
def Wz:D->M D
 |.int i=>.ok (.int (-i))
 |_=>.bad
def W5:Zl4 X E (unaryOp .USub) Wz:=by
 refine⟨_,Zad,fun Hf H x dx Q e rx q=>?_⟩
 unfold Wz at q
 split at q
 ·exact⟨_,rep_int.mp rx,Po.ret e q (rep_int.mpr rfl)⟩
 ·exact q.elim
def E7 (g:D->M D)(f:Zi->M D)(sd:Zi):M D:=(f sd).bind g
def Lf {op:UnaryOp}{g:D->M D}{f:Zi->M D}(ho:Zl4 X E (unaryOp op) g)(h:Xo X E a f):Xo X E (.UnaryOp op a pos) (E7 g f):=by
 obtain⟨r,hr,qr⟩:=ho
 obtain⟨t,p,q⟩:=h
 refine⟨_,Zac hr p,fun H0 B Hf sd σ H Q sr h=>?_⟩
 exact q H0 B Hf sd σ H _ sr (Po.bind h fun d v Hf1 H1 _ g1 rv h1=>qr Hf1 H1 v d Q g1.sub rv h1)
end
section
variable {prog:Program}{w:World}{A:Around}{E:Value->Shared->Prop}{s:Shared}
theorem R6 {α β:Type}{f g:α->Option β}:∀{l:List α},(∀a∈l,f a=g a)->l.filterMap f=l.filterMap g
 |[],_=>rfl
 |a::l,h=>by
  rw[List.filterMap_cons,List.filterMap_cons,h a List.mem_cons_self,R6 fun b hb=>h b (List.mem_cons_of_mem _ hb)]
def Zbc (xs:Array Value):((List.range xs.size).filterMap fun(m:Nat)=>xs[(((xs.size:Int)-1)+(m:Int)*(-1)).toNat]?).toArray=xs.toList.reverse.toArray:=by
 have h:=HT.pick_gen xs.toList.reverse.toArray 0 xs.size
 have e:(List.range xs.size).filterMap (fun(m:Nat)=>xs[(((xs.size:Int)-1)+(m:Int)*(-1)).toNat]?)=(List.range xs.size).filterMap (fun(m:Nat)=>xs.toList.reverse.toArray[(((0:Nat):Int)+(m:Int)*1).toNat]?):=by
  refine R6 fun m hm=>?_
  have hm:=List.mem_range.mp hm
  have e1:(((xs.size:Int)-1)+(m:Int)*(-1)).toNat=xs.size-1-m:=by lia
  have e2:(((0:Nat):Int)+(m:Int)*1).toNat=m:=by lia
  rw[e1,e2]
  simp only[List.getElem?_toArray]
  rw[List.getElem?_reverse (by simpa using hm)]
  simp
 rw[e,h]
 have hl:xs.toList.reverse.length=xs.size:=by simp
 show((xs.toList.reverse.drop 0).take xs.size).toArray=_
 rw[List.drop_zero,<-hl,List.take_length]
end
theorem Vals.rev:∀{xs:List V}{us:List Value},Vals xs us->Vals xs.reverse us.reverse
 |_,_,.nil=>.nil
 |_,_,.cons r t=>by
  rw[List.reverse_cons,List.reverse_cons]
  exact(Vals.rev t).append (.cons r .nil)
theorem Reps.rev {K:PySem.W.Frag}{H:Hp}:∀{ds:List D}{xs:List V},Reps K H ds xs->Reps K H ds.reverse xs.reverse
 |[],xs,h=>by rw[reps_nil.mp h];exact Reps.nil
 |d::ds,xs,h=>by
  obtain⟨x,r,rfl,h1,h2⟩:=reps_cons.mp h
  rw[List.reverse_cons,List.reverse_cons]
  exact(Reps.rev h2).append (Reps.cons h1 Reps.nil)
end DL
namespace DL
open PySem PySem.Spec PyProof.Rows L2
theorem Zz {X:Cx}{E:XK}{pos p:Pos}{a:Expr}{i:Int}{j}{fa:Zi->M D}(ha:Xo X E a fa):Xo X E (.Subscript a (.Constant (.int i) j p) pos) (Zl Yu fa (eC (.int i))):=Jw ha Zf (fun _ _=>rfl)
end DL
local macro_rules
 |`(↑$x:num)=>`(DL.eC (.int $x))
 |`(↑$x:str)=>`(DL.eC (.str (PySem.Str.ofString $x)))
 |`($x:num[$y:num]!)=>`(DL.Zl DL.Yu (DL.Zd $x) (DL.eC (.int $y)))
local macro_rules
 |`(tactic|trivial)=>`(tactic|exact fun _ _ _ _ _ _ us hl=>match us,hl with | [_],_=>rfl)
local macro_rules
 |`(tactic|trivial)=>`(tactic|exact fun _ _ _ _ _ _ us hl=>match us,hl with | [_,_],_=>rfl)
local macro_rules
 |`(tactic|trivial)=>`(tactic|exact fun _ _ _ _ _ _ us hl=>match us,hl with | [_,_,_],_=>rfl)
local macro_rules
 |`(tactic|trivial)=>`(tactic|exact fun _ _ _ _ _ _ us hl=>match us,hl with | [_,_,_,_],_=>rfl)
local macro_rules
 |`(tactic|trivial)=>`(tactic|exact fun _ _ _ _ _ _ us hl=>match us,hl with | [_,_,_,_,_],_=>rfl)
local macro_rules
 |`(tactic|trivial)=>`(tactic|exact fun _ _ _ _ _ _ us hl=>match us,hl with | [_,_,_,_,_,_],_=>rfl)
namespace DL
open PySem PySem.Spec PySem.Calls PySem.Builtin PySem.Builtin.ObjectAttr PyProof.Rows L2 PySem.W
def SR.ofS {K:Frag}{Hf H:Hp}{sd:Zi}{σ:L2.St}(e:Same Hf H)(hl:sd.length=σ.length)(hS:∀(i:Nat) (t:S),sd[i]?=some (some t)->t.own=false/\∃v,σ[i]?=some (some v)/\RepS K Hf t v):
  SR K H (fun a=>Lv H a/\Hf a=none) Hf sd σ H:=
 ⟨e,Same.refl _,fun _ h=>h.2,fun _ h=>h.1,hl,fun i t h _=>(hS i t h).2,fun i t h ho=>(by rw[(hS i t h).1] at ho;cases ho),fun i _ t _ _ _ h ho _ _ _ _=>(by rw[(hS i t h).1] at ho;cases ho)⟩
end DL
namespace DL
open PySem PySem.Spec PyProof.Rows L2
def ItK (t:Bool)(h:Heap)(i l:Addr)(k:Nat):Prop:=∃o,h.get? i=some o/\o.cls=.type (if t then "tuple_iterator" else "list_iterator")/\o.data=.fields #[.ref l,.int k 0]
def SqK (t:Bool)(h:Heap)(l:Addr)(xs:Array Value):Prop:=∃o,h.get? l=some o/\o.cls=.type (if t then "tuple" else "list")/\∃n,o.data=.seq xs n
def ItK.at {t:Bool}{h h':Heap}{i l:Addr}{k:Nat}(x:ItK t h i l k)(q:∀o,h.get? i=some o->h'.get? i=some o):ItK t h' i l k:=let ⟨o,e,r⟩:=x;⟨o,q o e,r⟩
def SqK.at {t:Bool}{h h':Heap}{l:Addr}{xs:Array Value}(x:SqK t h l xs)(q:∀o,h.get? l=some o->h'.get? l=some o):SqK t h' l xs:=let ⟨o,e,r⟩:=x;⟨o,q o e,r⟩
section
variable {prog:Program}{w:World}{A:Around}{E:Value->Shared->Prop}{s:Shared}
def W6 {t:Bool}{it l:Addr}{i:Nat}{xs:Array Value}{x:Value}{Q:Value->Shared->Prop}(hi:ItK t s.heap it l i)(hl:SqK t s.heap l xs)(hx:xs[i]?=some x)(hQ:∀h',ItK t h' it l (i+1)->Heap.SameBut it s.heap h'->Q x {s with heap:=h'}):wpAny (model prog w) A (Builtin.SmallTypes.nextOf (.ref it)) Q E s:=by
 cases t with
 |false=>exact wpAny_nextOf_list_item (show s.heap.IsListIter it l i from hi) (show s.heap.IsList l xs from hl) hx hQ
 |true=>
  obtain⟨o,ho,hc,hd⟩:=id hi
  obtain⟨ol,hol,_,nl,hdl⟩:=hl
  have ty:s.TypeIs (.ref it) "tuple_iterator":=⟨o,ho,hc⟩
  unfold Builtin.SmallTypes.nextOf
  refine wpAny_bind (wpAny_callSpecial?_slot (name:=Str.ofString "__next__") ty PyProof.Rows.slot_tupleiter_next (wpAny_call_entry PyProof.Rows.slot_tupleiter_next ty PyProof.Rows.entry_tupleiter_next ?_ (PyProof.Rows.args_tupleiter_next _)))
  refine wpAny_bind (m:=field (.ref it) 0) (wpAny_field ho hd (x:=.ref l) rfl ?_)
  dsimp only
  rw[if_neg (fun z:(Value.ref l==Value.none)=true=>Bool.false_ne_true z)]
  refine wpAny_bind (m:=field (.ref it) 1) (wpAny_field ho hd (x:=.int i 0) rfl (wpAny_bind (m:=seqItems? (.ref l)) (wpAny_seqItems hol hdl ?_)))
  simp only[Int.toNat_natCast,hx]
  refine wpAny_bind (wpAny_setField ho hd (by simp) (wpAny_pure ⟨x,rfl,wpAny_pure (hQ _ ⟨_,Heap.get?_update_self _ ho (Obj.isFreed_of_fields (Obj.data_mapFields hd _)),(Obj.cls_mapFields ..).trans hc,?_⟩ (Heap.SameBut.update ..))⟩))
  rw[Obj.data_mapFields hd];simp[rawInt]
def Lg {t:Bool}{it l:Addr}{i:Nat}{xs:Array Value}{Q:Value->Shared->Prop}(hh:A.handled=none)(hi:ItK t s.heap it l i)(hl:SqK t s.heap l xs)(hx:xs[i]?=none)
  (hE:∀h' e,Heap.ExtBut it s.heap h'->(∃o,h'.get? e=some o/\o.cls=.type "StopIteration")->E (.ref e) {s with heap:=h'}):wpAny (model prog w) A (Builtin.SmallTypes.nextOf (.ref it)) Q E s:=by
 cases t with
 |false=>exact wpAny_nextOf_list_end hh (show s.heap.IsListIter it l i from hi) (show s.heap.IsList l xs from hl) hx hE
 |true=>
  obtain⟨o,ho,hc,hd⟩:=id hi
  obtain⟨ol,hol,_,nl,hdl⟩:=hl
  have ty:s.TypeIs (.ref it) "tuple_iterator":=⟨o,ho,hc⟩
  unfold Builtin.SmallTypes.nextOf
  refine wpAny_bind (wpAny_callSpecial?_slot (name:=Str.ofString "__next__") ty PyProof.Rows.slot_tupleiter_next (wpAny_call_entry PyProof.Rows.slot_tupleiter_next ty PyProof.Rows.entry_tupleiter_next ?_ (PyProof.Rows.args_tupleiter_next _)))
  refine wpAny_bind (m:=field (.ref it) 0) (wpAny_field ho hd (x:=.ref l) rfl ?_)
  dsimp only
  rw[if_neg (fun z:(Value.ref l==Value.none)=true=>Bool.false_ne_true z)]
  refine wpAny_bind (m:=field (.ref it) 1) (wpAny_field ho hd (x:=.int i 0) rfl (wpAny_bind (m:=seqItems? (.ref l)) (wpAny_seqItems hol hdl ?_)))
  simp only[Int.toNat_natCast,hx]
  refine wpAny_bind (wpAny_rule (wpAny_bind (wpAny_setField ho hd (by simp) (wpAny_bind (m:=newExc (.type "StopIteration") []) ?_))))
  simp only[newExc,newTuple]
  refine wpAny_bind (wpAny_newObj_type (wpAny_bind (m:=firstArgMember _ _) (wpAny_of_eq (a:=Value.none) (by first|rfl|(simp only[firstArgMember];rfl)) (wpAny_newObj_type ?_ (by size_fits)))) (by size_fits))
  simp only[raiseNew]
  refine wpAny_bind (wpAny_handled ?_)
  first|rw[show A.in1.handled=none from hh]|rw[hh]
  exact wpAny_bind (wpAny_pure (wpAny_throw (hE _ _ (((Heap.SameBut.update ..).extBut.push _).push _) ⟨_,Heap.get?_push_size _ rfl,rfl⟩)))
def Zf6 {t:Bool}{l:Addr}{xs:Array Value}{Q:Value->Shared->Prop}(hl:SqK t s.heap l xs)
  (hQ:Q (.ref s.heap.objs.size) {s with heap:=s.heap.push {cls:=.type (if t then "tuple_iterator" else "list_iterator"),data:=.fields #[.ref l,.int 0 0]}}):wpAny (model prog w) A (pyIter (.ref l)) Q E s:=by
 cases t with
 |false=>exact wpAny_pyIter_list (show s.heap.IsList l xs from hl) hQ
 |true=>exact PyProof.Rows.iter_tuple (show IsTup s.heap l xs from hl) hQ
def I0 {t1 t2:Bool}{z TI TO i1 i2 l1 l2:Addr}{k1 k2:Nat}{xs ys:Array Value}{x y a b:Value}{Q:Value->Shared->Prop}(D:ZipApart z TI TO i1 i2 l1 l2)(yz:IsZip s.heap z TI TO .none)(yI:IsPair s.heap TI (.ref i1) (.ref i2))(yO:IsPair s.heap TO a b)(y1:ItK t1 s.heap i1 l1 k1)(y2:ItK t2 s.heap i2 l2 k2)(m1:SqK t1 s.heap l1 xs)(m2:SqK t2 s.heap l2 ys)(ex:xs[k1]?=some x)(ey:ys[k2]?=some y)(hQ:∀h',IsZip h' z TI TO (rawInt s.heap.objs.size)->IsPair h' TO x y->ItK t1 h' i1 l1 (k1+1)->ItK t2 h' i2 l2 (k2+1)->IsPair h' s.heap.objs.size x y->h'.objs.size=s.heap.objs.size+1->(∀c o,c≠z->c≠TO->c≠i1->c≠i2->s.heap.get? c=some o->h'.get? c=some o)->Q (.ref s.heap.objs.size) {s with heap:=h'}):
  wpAny (model prog w) A (Builtin.«zip.__next__» ⟨[.ref z],[]⟩) (fun fin s'=>∃v,fin=.done (.ret v)/\Q v s') E s:=by
 refine wpAny_bind (m:=field (.ref z) 2) (wpAny_field yz rfl (x:=.bool false) rfl (wpAny_bind (m:=field (.ref z) 3) (wpAny_field yz rfl (x:=.ref TI) rfl (wpAny_bind (wpAny_seqItems yI rfl ?_)))))
 refine wpAny_bind (m:=Builtin.SmallTypes.ownedTupleIsFree (.ref z)) ?_
 unfold Builtin.SmallTypes.ownedTupleIsFree
 refine wpAny_bind (wpAny_field yz rfl (x:=.none) rfl (wpAny_pure ?_));simp only[if_true]
 refine wpAny_bind (wpAny_rule (wpAny_bind (wpAny_field yz rfl (x:=.ref TO) rfl (wpAny_bind (wpAny_setField_rec yz (by simp) fun h1 z1 e1=>wpAny_bind ?_)))))
 have z1:IsZip h1 z TI TO .ellipsis:=z1
 simp only[List.zipIdx_cons,List.zipIdx_nil,List.forIn_cons,List.forIn_nil]
 refine wpAny_bind (wpAny_bind (wpAny_onRaise (wpAny_bind (m:=Builtin.SmallTypes.nextOf (.ref i1)) (W6 (s:={s with heap:=h1}) (y1.at fun o q=>e1.extBut _ _ D.i1z q) (m1.at fun o q=>e1.extBut _ _ D.l1z q) ex fun h2 n1 e2=>wpAny_pure ?_))))
 have o2:IsPair h2 TO a b:=e2.extBut _ _ D.TOi1 (e1.extBut _ _ D.TOz yO)
 refine wpAny_bind (wpAny_seqItems o2 rfl (wpAny_bind (wpAny_updateSeq_pair o2 fun h3 o3 e3=>wpAny_bind (wpAny_letGo (wpAny_pure ?_)))))
 have o3:IsPair h3 TO x b:=o3
 refine wpAny_bind (wpAny_bind (wpAny_onRaise (wpAny_bind (m:=Builtin.SmallTypes.nextOf (.ref i2)) (W6 (s:={s with heap:=h3}) (y2.at fun o q=>e3.extBut _ _ D.TOi2.symm (e2.extBut _ _ D.i12.symm (e1.extBut _ _ D.i2z q))) (m2.at fun o q=>e3.extBut _ _ D.l2TO (e2.extBut _ _ D.l2i1 (e1.extBut _ _ D.l2z q))) ey fun h4 n2 e4=>wpAny_pure ?_))))
 have o4:IsPair h4 TO x b:=e4.extBut _ _ D.TOi2 o3
 refine wpAny_bind (wpAny_seqItems o4 rfl (wpAny_bind (wpAny_updateSeq_pair o4 fun h5 o5 e5=>wpAny_bind (wpAny_letGo (wpAny_pure (wpAny_pure ?_))))))
 have o5:IsPair h5 TO x y:=o5
 refine wpAny_bind (wpAny_seqItems o5 rfl (wpAny_bind (wpAny_newTuple ?_)))
 have sz:h5.objs.size=s.heap.objs.size:=by rw[e5.1,e4.1,e3.1,e2.1,e1.1]
 have z5:IsZip h5 z TI TO .ellipsis:=e5.extBut _ _ D.TOz.symm (e4.extBut _ _ D.i2z.symm (e3.extBut _ _ D.TOz.symm (e2.extBut _ _ D.i1z.symm z1)))
 have kk:∀c o,c≠z->c≠TO->c≠i1->c≠i2->s.heap.get? c=some o->h5.get? c=some o:=fun c o c1 c2 c3 c4 q=>e5.extBut _ _ c2 (e4.extBut _ _ c4 (e3.extBut _ _ c2 (e2.extBut _ _ c3 (e1.extBut _ _ c1 q))))
 have f1:ItK t1 h5 i1 l1 (k1+1):=n1.at fun o q=>e5.extBut _ _ D.TOi1.symm (e4.extBut _ _ D.i12 (e3.extBut _ _ D.TOi1.symm q))
 have f2:ItK t2 h5 i2 l2 (k2+1):=n2.at fun o q=>e5.extBut _ _ D.TOi2.symm q
 have zl:z<h5.objs.size:=Heap.lt_size z5
 refine wpAny_bind (m:=Builtin.SmallTypes.ownedTupleHandOut (.ref z) (.ref h5.objs.size)) ?_
 unfold Builtin.SmallTypes.ownedTupleHandOut
 have z6:IsZip (h5.push {cls:=.type "tuple", data:=.seq #[x,y]}) z TI TO .ellipsis:=Heap.get?_push_of_some _ z5
 refine wpAny_bind (wpAny_setField_rec z6 (by simp) fun h7 z7 e7=>?_)
 have z7:IsZip h7 z TI TO (rawInt h5.objs.size):=z7
 refine wpAny_setField_rec z7 (by simp) fun h8 z8 e8=>?_
 have z8:IsZip h8 z TI TO (rawInt h5.objs.size):=z8
 have up:∀c o,c≠z->h5.get? c=some o->h8.get? c=some o:=fun c o c1 q=>e8.extBut _ _ c1 (e7.extBut _ _ c1 (Heap.get?_push_of_some _ q))
 have nz:h5.objs.size≠z:=Nat.ne_of_gt zl
 have T8:IsPair h8 h5.objs.size x y:=e8.extBut _ _ nz (e7.extBut _ _ nz (Heap.get?_push_size _ rfl))
 have s8:h8.objs.size=h5.objs.size+1:=by rw[e8.1,e7.1,Heap.size_push]
 refine wpAny_pure ⟨_,rfl,?_⟩
 rw[sz] at z8 T8 s8
 have fin:=hQ h8 z8 (up _ _ D.TOz o5) (f1.at fun o q=>up _ o D.i1z q) (f2.at fun o q=>up _ o D.i2z q) T8 s8 fun c o c1 c2 c3 c4 q=>up c o c1 (kk c o c1 c2 c3 c4 q)
 rw[<-sz] at fin
 exact fin
def Zbd {t1 t2:Bool}{z TI TO i1 i2 l1 l2:Addr}{k1 k2:Nat}{xs ys:Array Value}{a b:Value}{Q:Fin->Shared->Prop}(hh:A.handled=none)(D:ZipApart z TI TO i1 i2 l1 l2)(yz:IsZip s.heap z TI TO .none)(yI:IsPair s.heap TI (.ref i1) (.ref i2))(yO:IsPair s.heap TO a b)(y1:ItK t1 s.heap i1 l1 k1)(y2:ItK t2 s.heap i2 l2 k2)(m1:SqK t1 s.heap l1 xs)(m2:SqK t2 s.heap l2 ys)(hend:xs[k1]?=none\/ys[k2]?=none)
  (hE:∀h' e,(∀c o,c≠z->c≠TO->c≠i1->c≠i2->s.heap.get? c=some o->h'.get? c=some o)->(∃o,h'.get? e=some o/\o.cls=.type "StopIteration")->E (.ref e) {s with heap:=h'}):
  wpAny (model prog w) A (Builtin.«zip.__next__» ⟨[.ref z],[]⟩) Q E s:=by
 refine wpAny_bind (m:=field (.ref z) 2) (wpAny_field yz rfl (x:=.bool false) rfl (wpAny_bind (m:=field (.ref z) 3) (wpAny_field yz rfl (x:=.ref TI) rfl (wpAny_bind (wpAny_seqItems yI rfl ?_)))))
 refine wpAny_bind (m:=Builtin.SmallTypes.ownedTupleIsFree (.ref z)) ?_
 unfold Builtin.SmallTypes.ownedTupleIsFree
 refine wpAny_bind (wpAny_field yz rfl (x:=.none) rfl (wpAny_pure ?_));simp only[if_true]
 refine wpAny_bind (wpAny_rule (wpAny_bind (wpAny_field yz rfl (x:=.ref TO) rfl (wpAny_bind (wpAny_setField_rec yz (by simp) fun h1 z1 e1=>wpAny_bind ?_)))))
 have z1:IsZip h1 z TI TO .ellipsis:=z1
 simp only[List.zipIdx_cons,List.zipIdx_nil,List.forIn_cons,List.forIn_nil]
 refine wpAny_bind (wpAny_bind (wpAny_onRaise (wpAny_bind (m:=Builtin.SmallTypes.nextOf (.ref i1)) ?_)))
 have u1:=y1.at (h':=h1) fun o q=>e1.extBut _ _ D.i1z q
 have v1:=m1.at (h':=h1) fun o q=>e1.extBut _ _ D.l1z q
 cases hx:xs[k1]? with
 |none=>
  refine Lg (s:={s with heap:=h1}) hh u1 v1 hx fun h2 e e2 he=>?_
  obtain⟨oe,q1,q2⟩:=he
  have z2:IsZip h2 z TI TO .ellipsis:=e2 _ _ D.i1z.symm z1
  have nz:e≠z:=fun r=>by subst r;rw[z2] at q1;cases q1;simp at q2
  exact wpAny_setField_rec z2 (by simp) fun h3 _ e3=>hE h3 e (fun c o c1 _ c3 _ r=>e3.extBut _ _ c1 (e2 _ _ c3 (e1.extBut _ _ c1 r))) ⟨oe,e3.extBut _ _ nz q1,q2⟩
 |some x=>
  have hy:ys[k2]?=none:=by
   rcases hend with q|q
   ·rw[hx] at q;cases q
   ·exact q
  refine W6 (s:={s with heap:=h1}) u1 v1 hx fun h2 n1 e2=>wpAny_pure ?_
  have o2:IsPair h2 TO a b:=e2.extBut _ _ D.TOi1 (e1.extBut _ _ D.TOz yO)
  refine wpAny_bind (wpAny_seqItems o2 rfl (wpAny_bind (wpAny_updateSeq_pair o2 fun h3 o3 e3=>wpAny_bind (wpAny_letGo (wpAny_pure ?_)))))
  refine wpAny_bind (wpAny_bind (wpAny_onRaise (wpAny_bind (m:=Builtin.SmallTypes.nextOf (.ref i2)) (Lg (s:={s with heap:=h3}) hh (y2.at fun o q=>e3.extBut _ _ D.TOi2.symm (e2.extBut _ _ D.i12.symm (e1.extBut _ _ D.i2z q))) (m2.at fun o q=>e3.extBut _ _ D.l2TO (e2.extBut _ _ D.l2i1 (e1.extBut _ _ D.l2z q))) hy fun h4 e e4 he=>?_))))
  obtain⟨oe,q1,q2⟩:=he
  have z4:IsZip h4 z TI TO .ellipsis:=e4 _ _ D.i2z.symm (e3.extBut _ _ D.TOz.symm (e2.extBut _ _ D.i1z.symm z1))
  have nz:e≠z:=fun r=>by subst r;rw[z4] at q1;cases q1;simp at q2
  exact wpAny_setField_rec z4 (by simp) fun h5 _ e5=>hE h5 e (fun c o c1 c2 c3 c4 r=>e5.extBut _ _ c1 (e4 _ _ c4 (e3.extBut _ _ c2 (e2.extBut _ _ c3 (e1.extBut _ _ c1 r))))) ⟨oe,e5.extBut _ _ nz q1,q2⟩
def Dq {t1 t2:Bool}{z TI TO i1 i2 l1 l2:Addr}{k1 k2:Nat}{xs ys:Array Value}{x y a b:Value}{Q:Option Value->Shared->Prop}(D:ZipApart z TI TO i1 i2 l1 l2)(yz:IsZip s.heap z TI TO .none)(yI:IsPair s.heap TI (.ref i1) (.ref i2))(yO:IsPair s.heap TO a b)(y1:ItK t1 s.heap i1 l1 k1)(y2:ItK t2 s.heap i2 l2 k2)(m1:SqK t1 s.heap l1 xs)(m2:SqK t2 s.heap l2 ys)(ex:xs[k1]?=some x)(ey:ys[k2]?=some y)(hQ:∀h',IsZip h' z TI TO (rawInt s.heap.objs.size)->IsPair h' TO x y->ItK t1 h' i1 l1 (k1+1)->ItK t2 h' i2 l2 (k2+1)->IsPair h' s.heap.objs.size x y->h'.objs.size=s.heap.objs.size+1->(∀c o,c≠z->c≠TO->c≠i1->c≠i2->s.heap.get? c=some o->h'.get? c=some o)->Q (some (.ref s.heap.objs.size)) {s with heap:=h'}):
  wpAny (model prog w) A (pyNext (.ref z)) Q E s:=by
 have ty:s.TypeIs (.ref z) "zip":=⟨_,yz,rfl⟩
 unfold pyNext
 exact wpAny_bind (wpAny_attempt (wpAny_callSpecial?_slot (name:=Str.ofString "__next__") ty F.slot_zip_next (wpAny_call_entry F.slot_zip_next ty F.entry_zip_next
  (I0 D yz yI yO y1 y2 m1 m2 ex ey fun h' a1 a2 a3 a4 a5 a6 a7=>wpAny_pure (hQ h' a1 a2 a3 a4 a5 a6 a7)) (F.args_zip_next_1 _))))
def I8 {t1 t2:Bool}{z TI TO i1 i2 l1 l2:Addr}{k1 k2:Nat}{xs ys:Array Value}{a b:Value}{Q:Option Value->Shared->Prop}(hh:A.handled=none)(D:ZipApart z TI TO i1 i2 l1 l2)(yz:IsZip s.heap z TI TO .none)(yI:IsPair s.heap TI (.ref i1) (.ref i2))(yO:IsPair s.heap TO a b)(y1:ItK t1 s.heap i1 l1 k1)(y2:ItK t2 s.heap i2 l2 k2)(m1:SqK t1 s.heap l1 xs)(m2:SqK t2 s.heap l2 ys)(hend:xs[k1]?=none\/ys[k2]?=none)(hQ:∀h',(∀c o,c≠z->c≠TO->c≠i1->c≠i2->s.heap.get? c=some o->h'.get? c=some o)->Q none {s with heap:=h'}):wpAny (model prog w) A (pyNext (.ref z)) Q E s:=by
 have ty:s.TypeIs (.ref z) "zip":=⟨_,yz,rfl⟩
 unfold pyNext
 refine wpAny_bind (wpAny_attempt (wpAny_callSpecial?_slot (name:=Str.ofString "__next__") ty F.slot_zip_next (wpAny_call_entry F.slot_zip_next ty F.entry_zip_next (Zbd hh D yz yI yO y1 y2 m1 m2 hend fun h' e hk he=>?_) (F.args_zip_next_1 _))))
 obtain⟨o,q1,q2⟩:=he
 exact wpAny_bind (wpAny_isInstance (T:="StopIteration") (b:=true) ⟨o,q1,q2⟩ isSubtype_stop (wpAny_pure (hQ _ hk)))
abbrev O5 (t:Bool)(l:Addr):Obj:={cls:=.type (if t then "tuple_iterator" else "list_iterator"),data:=.fields #[.ref l,.int 0 0]}
abbrev Zh4 (t1 t2:Bool)(h:Heap)(l1 l2:Addr):Heap:=(h.push (O5 t1 l1)).push (O5 t2 l2)
abbrev Zlc (t1 t2:Bool)(h:Heap)(l1 l2:Addr):Heap:=((Zh4 t1 t2 h l1 l2).push {cls:=.type "tuple", data:=.seq #[.ref h.objs.size,.ref (h.push (O5 t1 l1)).objs.size]}).push {cls:=.type "tuple", data:=.seq #[.none,.none]}
abbrev Zi7 (t1 t2:Bool)(h:Heap)(l1 l2:Addr):Heap:=(Zlc t1 t2 h l1 l2).push {cls:=.type "zip", data:=.fields #[.none,.bool false,.bool false,.ref (Zh4 t1 t2 h l1 l2).objs.size,.ref ((Zh4 t1 t2 h l1 l2).push {cls:=.type "tuple", data:=.seq #[.ref h.objs.size,.ref (h.push (O5 t1 l1)).objs.size]}).objs.size]}
def Zl5 (t1 t2:Bool)(l1 l2:Addr)(xs ys:Array Value):Meets (Builtin.«zip.__new__» ⟨[.type "zip", .ref l1,.ref l2],[]⟩) (fun _ R s=>SqK t1 s.heap l1 xs/\SqK t2 s.heap l2 ys/\R (.ok (.ret (.ref (Zlc t1 t2 s.heap l1 l2).objs.size))) {s with heap:=Zi7 t1 t2 s.heap l1 l2}):=
 .of_wp fun prog w A R s h=>by
  obtain⟨hp,g,d,tk,os⟩:=s
  obtain⟨h1,h2,h⟩:=h
  have sb:=sub_zip
  have b1:SqK t1 (Shared.heap ⟨hp,g,d,tk,os⟩) l1 xs:=h1
  have b2:SqK t2 (Shared.heap ⟨hp.push (O5 t1 l1),g,d,tk,os⟩) l2 ys:=h2.at fun o q=>Heap.get?_push_of_some _ q
  wp_walk using Zf6 b1,Zf6 b2
  exact⟨_,rfl,h⟩
def Zkf {t1 t2:Bool}{l1 l2:Addr}{xs ys:Array Value}{Q:Value->Shared->Prop}(m1:SqK t1 s.heap l1 xs)(m2:SqK t2 s.heap l2 ys)(h:∀h',IsZip h' (s.heap.objs.size+4) (s.heap.objs.size+2) (s.heap.objs.size+3) .none->IsPair h' (s.heap.objs.size+2) (.ref s.heap.objs.size) (.ref (s.heap.objs.size+1))->IsPair h' (s.heap.objs.size+3) .none .none ->
   ItK t1 h' s.heap.objs.size l1 0->ItK t2 h' (s.heap.objs.size+1) l2 0->(∀c o,s.heap.get? c=some o->h'.get? c=some o)->Q (.ref (s.heap.objs.size+4)) {s with heap:=h'}):wpAny (model prog w) A (call (.type "zip") [.ref l1,.ref l2]) Q E s:=by
 refine callType_new F.called_zip (by decide) (F.typeCall_zip_2 _ _) (F.newCall_zip_2 _ _) (fun obj=>F.args_object_init_3 obj _ _) F.entry_zip_new (Zl5 t1 t2 l1 l2 xs ys) ⟨m1,m2,?_⟩
 have z1:(s.heap.push (O5 t1 l1)).objs.size=s.heap.objs.size+1:=Heap.size_push ..
 have z2:(Zh4 t1 t2 s.heap l1 l2).objs.size=s.heap.objs.size+2:=by rw[Heap.size_push,z1]
 have z3:((Zh4 t1 t2 s.heap l1 l2).push {cls:=.type "tuple", data:=.seq #[.ref s.heap.objs.size,.ref (s.heap.push (O5 t1 l1)).objs.size]}).objs.size=s.heap.objs.size+3:=by rw[Heap.size_push,z2]
 have z4:(Zlc t1 t2 s.heap l1 l2).objs.size=s.heap.objs.size+4:=by rw[Heap.size_push,z3]
 have g5:(Zi7 t1 t2 s.heap l1 l2).get? (Zlc t1 t2 s.heap l1 l2).objs.size=some _:=Heap.get?_push_size _ rfl
 have g4:(Zi7 t1 t2 s.heap l1 l2).get? ((Zh4 t1 t2 s.heap l1 l2).push {cls:=.type "tuple", data:=.seq #[.ref s.heap.objs.size,.ref (s.heap.push (O5 t1 l1)).objs.size]}).objs.size=some {cls:=.type "tuple", data:=.seq #[.none,.none]}:=Heap.get?_push_of_some _ (Heap.get?_push_size _ rfl)
 have g3:(Zi7 t1 t2 s.heap l1 l2).get? (Zh4 t1 t2 s.heap l1 l2).objs.size=some {cls:=.type "tuple", data:=.seq #[.ref s.heap.objs.size,.ref (s.heap.push (O5 t1 l1)).objs.size]}:=Heap.get?_push_of_some _ (Heap.get?_push_of_some _ (Heap.get?_push_size _ rfl))
 have g2:(Zi7 t1 t2 s.heap l1 l2).get? (s.heap.push (O5 t1 l1)).objs.size=some (O5 t2 l2):=Heap.get?_push_of_some _ (Heap.get?_push_of_some _ (Heap.get?_push_of_some _ (Heap.get?_push_size _ rfl)))
 have g1:(Zi7 t1 t2 s.heap l1 l2).get? s.heap.objs.size=some (O5 t1 l1):=Heap.get?_push_of_some _ (Heap.get?_push_of_some _ (Heap.get?_push_of_some _ (Heap.get?_push_of_some _ (Heap.get?_push_size _ rfl))))
 show _/\_
 rw[z2,z3,z4] at g5
 rw[z1,z2] at g3
 rw[z3] at g4
 rw[z1] at g2
 rw[z4]
 exact⟨⟨_,g5,rfl⟩,h _ g5 g3 g4 ⟨_,g1,rfl,rfl⟩ ⟨_,g2,rfl,rfl⟩ fun c o q=>Heap.get?_push_of_some _ (Heap.get?_push_of_some _ (Heap.get?_push_of_some _ (Heap.get?_push_of_some _ (Heap.get?_push_of_some _ q))))⟩
end
def R7 (t:Bool)(K:PySem.W.Frag)(H:Hp)(a:Addr)(xs:List V):Prop:=if t=true then SqT K H a xs else SqL K H a xs
def Vg {X:Cx}{pins:List (Addr×Obj)}{σ:L2.St}{H:Hp}{s:Shared}{t:Bool}{a:Addr}{xs:List V}(I:Inv X pins σ H s)(h:R7 t X.K H a xs):∃its:List Value,Vals xs its/\SqK t s.heap a its.toArray:=by
 cases t with
 |false=>
  obtain⟨its,rv,p,_⟩:=I.list (show SqL X.K H a xs from h)
  exact⟨its,rv,p.isList⟩
 |true=>
  obtain⟨its,rv,p,_⟩:=I.tuple (show SqT X.K H a xs from h)
  exact⟨its,rv,p⟩
def E8 {X:Cx}{pins:List (Addr×Obj)}{σ:L2.St}{H:Hp}{s:Shared}{t:Bool}{a:Addr}{xs ys:List V}(I:Inv X pins σ H s)(h:R7 t X.K H a xs)(h':R7 t X.K H a ys):xs=ys:=by
 cases t with
 |false=>exact I.list_inj (show SqL X.K H a xs from h) (show SqL X.K H a ys from h')
 |true=>exact I.tuple_inj (show SqT X.K H a xs from h) (show SqT X.K H a ys from h')
def Ja {K:PySem.W.Frag}{H H':Hp}{t:Bool}{a:Addr}{xs:List V}(e:Same H H')(h:R7 t K H a xs):R7 t K H' a xs:=by
 cases t with
 |false=>exact e.seq (show SqL K H a xs from h)
 |true=>exact e.seqT (show SqT K H a xs from h)
def Zl6 (t1 t2:Bool)(K:PySem.W.Frag)(a b:Addr):It:=
 ⟨fun i H=>∃xs ys x y,R7 t1 K H a xs/\R7 t2 K H b ys/\xs[i]?=some x/\ys[i]?=some y,
  fun i H v H'=>∃p x y,H p=none/\v=.ref p/\H'=upd H p (.tup [x,y])/\(∀xs,R7 t1 K H a xs->xs[i]?=some x)/\∀ys,R7 t2 K H b ys->ys[i]?=some y,
  fun i H=>∃xs ys,R7 t1 K H a xs/\R7 t2 K H b ys/\(xs.length<=i\/ys.length<=i)⟩
abbrev Znd (t1 t2:Bool)(a b z TI TO i1 i2:Addr)(i:Nat)(h:Heap):Prop:=IsZip h z TI TO .none/\IsPair h TI (.ref i1) (.ref i2)/\(∃p q,IsPair h TO p q)/\ItK t1 h i1 a i/\ItK t2 h i2 b i/\a<z/\b<z/\a≠TO/\b≠TO/\a≠i1/\a≠i2/\b≠i1/\b≠i2
def I9 {P:Program}{w:World}{K:PySem.W.Frag}{es:List Expr}{k:Nat}{pos:Pos}(t1 t2:Bool)(a b z TI TO i1 i2:Addr)(A:ZA z TI TO i1 i2):Turn P w K (.Tuple es k pos) (Zl6 t1 t2 K a b) [z,TI,TO,i1,i2] z (Znd t1 t2 a b z TI TO i1 i2) where
 mem:=by simp
 obj:=fun i h st c hc=>by
  obtain⟨hz,hTI,⟨p,q,hTO⟩,⟨o1,e1,c1,d1⟩,⟨o2,e2,c2,d2⟩,_⟩:=st
  simp at hc
  rcases hc with rfl|rfl|rfl|rfl|rfl
  ·exact⟨_,hz,fun v z=>by cases z⟩
  ·exact⟨_,hTI,fun v z=>by cases z⟩
  ·exact⟨_,hTO,fun v z=>by cases z⟩
  ·exact⟨o1,e1,fun v z=>by rw[d1] at z;cases z⟩
  ·exact⟨o2,e2,fun v z=>by rw[d2] at z;cases z⟩
 keep:=fun i h h' st kk=>by
  obtain⟨hz,hTI,⟨p,q,hTO⟩,h1,h2,ap⟩:=st
  exact⟨kk z (by simp) _ hz,kk TI (by simp) _ hTI,⟨p,q,kk TO (by simp) _ hTO⟩,h1.at fun o e=>kk i1 (by simp) o e,h2.at fun o e=>kk i2 (by simp) o e,ap⟩
 item:=by
  intro X hP hw hK hc i pins s σ H E I hf st hg
  subst hP hw hK
  obtain⟨xs,ys,x,y,hq1,hq2,hx,hy⟩:=hg
  obtain⟨its1,rv1,p1⟩:=Vg I hq1
  obtain⟨its2,rv2,p2⟩:=Vg I hq2
  obtain⟨u1,hu1,ru1⟩:=rv1.get hx
  obtain⟨u2,hu2,ru2⟩:=rv2.get hy
  obtain⟨hz,hTI,⟨p,q,hTO⟩,h1,h2,w1,w2,w3,w4,w5,w6,w7,w8⟩:=id st
  have D:ZipApart z TI TO i1 i2 a b:=⟨A.TIz,A.TOz,A.i1z,A.i2z,A.TITO,A.TIi1,A.TIi2,A.TOi1,A.TOi2,A.i12,Nat.ne_of_lt w1,w3,w5,w6,Nat.ne_of_lt w2,w4,w7,w8⟩
  refine Dq D hz hTI hTO h1 h2 p1 p2 (x:=u1) (y:=u2) (by simpa using hu1) (by simpa using hu2) fun h' a1 a2 a3 a4 a5 a6 a7=>⟨_,rfl,wpAny_letOwnedTupleGo_zip a1 fun h'' b1 b2=>?_⟩
  have lt:∀{c o},s.heap.get? c=some o->c≠s.heap.objs.size:=fun e=>Nat.ne_of_lt (Heap.lt_size e)
  have kk:∀b u,b ∉ [z,TI,TO,i1,i2]->s.heap.get? b=some u->h''.get? b=some u:=fun b u nb q=>(b2.2 b (fun z=>nb (by simp[z]))).trans (a7 b u (fun z=>nb (by simp[z])) (fun z=>nb (by simp[z])) (fun z=>nb (by simp[z])) (fun z=>nb (by simp[z])) q)
  have hT:h''.get? s.heap.objs.size=some {cls:=.type "tuple", data:=.seq #[u1,u2]}:=(b2.2 _ (Ne.symm (lt hz))).trans a5
  refine⟨.ref s.heap.objs.size,_,I.turnedT (o:=.tup [x,y]) (t':=s.toks) hf kk (Nat.le_refl _) ⟨by show 2<=sizeLine;decide,[u1,u2],.cons ru1 (.cons ru2 .nil),⟨_,hT,rfl,_,rfl⟩⟩,rfl,
   ⟨_,x,y,I.fresh,rfl,rfl,fun zs hy=>by rw[E8 I hy hq1];exact hx,fun zs hy'=>by rw[E8 I hy' hq2];exact hy⟩,
   ⟨b1,(b2.2 TI A.TIz).trans (a7 _ _ A.TIz A.TITO A.TIi1 A.TIi2 hTI),⟨u1,u2,(b2.2 TO A.TOz).trans a2⟩,a3.at fun o q=>(b2.2 i1 A.i1z).trans q,a4.at fun o q=>(b2.2 i2 A.i2z).trans q,w1,w2,w3,w4,w5,w6,w7,w8⟩,fun b hb=>?_⟩
  have:b≠s.heap.objs.size:=by
   obtain⟨o1,e1,_⟩:=id h1
   obtain⟨o2,e2,_⟩:=id h2
   have hb':=hb
   simp at hb'
   rcases hb' with rfl|rfl|rfl|rfl|rfl
   ·exact lt hz
   ·exact lt hTI
   ·exact lt hTO
   ·exact lt e1
   ·exact lt e2
  rw[Zn this];exact(hf b hb).1
 done:=by
  intro X hP hw hK hc i pins s σ H E I hf st hg
  subst hP hw hK
  obtain⟨xs,ys,hq1,hq2,hx⟩:=hg
  obtain⟨its1,rv1,p1⟩:=Vg I hq1
  obtain⟨its2,rv2,p2⟩:=Vg I hq2
  have hl1:=rv1.length
  have hl2:=rv2.length
  obtain⟨hz,hTI,⟨p,q,hTO⟩,h1,h2,w1,w2,w3,w4,w5,w6,w7,w8⟩:=id st
  have D:ZipApart z TI TO i1 i2 a b:=⟨A.TIz,A.TOz,A.i1z,A.i2z,A.TITO,A.TIi1,A.TIi2,A.TOi1,A.TOi2,A.i12,Nat.ne_of_lt w1,w3,w5,w6,Nat.ne_of_lt w2,w4,w7,w8⟩
  refine I8 (I.ok.hd hc) D hz hTI hTO h1 h2 p1 p2 ?_ fun h' eb=>⟨rfl,I.turnedF (t':=s.toks) hf fun b u nb q=>eb b u (fun z=>nb (by simp[z])) (fun z=>nb (by simp[z])) (fun z=>nb (by simp[z])) (fun z=>nb (by simp[z])) q⟩
  rcases hx with hx|hx
  ·exact .inl (by simp;lia)
  ·exact .inr (by simp;lia)
 self:=fun _ _ _ _ _ st h=>wpAny_pyIter_zip st.1 h
section
variable {X:Cx}{E:XK}{pos p p2:Pos}{es:List Expr}{k:Nat}
def Zne (t1 t2:Bool)(K:PySem.W.Frag)(tl:TA):TI:=fun σ H R=>tl σ H fun vs H1=>∃a b,vs=[.ref a,.ref b]/\(∃xs,R7 t1 K H1 a xs)/\(∃ys,R7 t2 K H1 b ys)/\R (Zl6 t1 t2 K a b) H1
def E9 (t1 t2:Bool){l m:Expr}{tl:TA} (hg:Gl X "zip") (hm:X.mg "zip"=none) (hl:PA X [l,m] tl) (hs:starEach [l,m] X.env=[(false,eval l X.env),(false,eval m X.env)]:=by rfl) (hs2:starEach [m] X.env=[(false,eval m X.env)]:=by rfl):
  PI X (.Tuple es k p2) (.Call (.Name "zip" p) [l,m] [] pos) (Zne t1 t2 X.K tl):=by
 intro pins s σ H R I h
 refine Call_ (Re I hg hm boot_zip (PyProof.Rows.callWith_type1 (Yx (hl pos pins s σ H _ I h) fun us s1 ⟨vs,H1,I1,r1,q1⟩=>?_) (by rw[hs,hs2]) (by rw[hs2];rfl)))
 obtain⟨a,b,rfl,⟨xs,hq⟩,⟨ys,hq2⟩,q⟩:=q1
 obtain⟨u,w',rfl,rx,ry⟩:=Zaf r1
 cases rx
 cases ry
 obtain⟨its,rv,pl⟩:=Vg I1 hq
 obtain⟨its2,rv2,pl2⟩:=Vg I1 hq2
 refine Zkf pl pl2 fun h' e1 e2 e3 e4 e5 e7=>wpAny_pyIter_zip e1 ?_
 have I2:Inv X pins σ H1 {s1 with heap:=h'}:=I1.kept (t':=s1.toks) e7
 have la:a<s1.heap.objs.size:=by obtain⟨o,z,_⟩:=pl;exact Heap.lt_size z
 have lb:b<s1.heap.objs.size:=by obtain⟨o,z,_⟩:=pl2;exact Heap.lt_size z
 refine⟨s1.heap.objs.size+4,[s1.heap.objs.size+4,s1.heap.objs.size+2,s1.heap.objs.size+3,s1.heap.objs.size,s1.heap.objs.size+1],_,_,H1,rfl,I2,I9 t1 t2 a b (s1.heap.objs.size+4) (s1.heap.objs.size+2) (s1.heap.objs.size+3) s1.heap.objs.size (s1.heap.objs.size+1) (Znc _),
  ⟨e1,e2,⟨_,_,e3⟩,e4,e5,Nat.lt_of_lt_of_le la (Nat.le_add_right _ _),Nat.lt_of_lt_of_le lb (Nat.le_add_right _ _),Nat.ne_of_lt (Nat.lt_of_lt_of_le la (Nat.le_add_right _ _)),Nat.ne_of_lt (Nat.lt_of_lt_of_le lb (Nat.le_add_right _ _)),Nat.ne_of_lt la,Nat.ne_of_lt (Nat.lt_succ_of_lt la),Nat.ne_of_lt lb,Nat.ne_of_lt (Nat.lt_succ_of_lt lb)⟩,fun b hb=>?_,q⟩
 have hb:s1.heap.objs.size<=b:=by simp at hb;rcases hb with rfl|rfl|rfl|rfl|rfl<;>lia
 exact I1.fpOk hb (I1.hok.fresh hb)
def Zbe {t1 t2:Bool}{K:PySem.W.Frag}{Hf H:Hp}{a b:Addr}{xs ys:List V}{ds es:List D}(h:R7 t1 K Hf a xs)(r:Reps K Hf ds xs)(h':R7 t2 K Hf b ys)(r':Reps K Hf es ys):Pt K Hf H (Aq ds es) (Zl6 t1 t2 K a b):=by
 intro i Hf1 H1 e1 e2
 have h2:=Ja e2 (Ja e1 h)
 have h3:=Ja e2 (Ja e1 h')
 rw[Za5]
 cases q:ds[i]? with
 |none=>exact⟨xs,ys,h2,h3,.inl (List.getElem?_eq_none_iff.mp (r.none_of q))⟩
 |some d=>
  cases q':es[i]? with
  |none=>exact⟨xs,ys,h2,h3,.inr (List.getElem?_eq_none_iff.mp (r'.none_of q'))⟩
  |some e=>
   obtain⟨x,ex,rx⟩:=r.get q
   obtain⟨y,ey,ry⟩:=r'.get q'
   refine⟨⟨xs,ys,x,y,h2,h3,ex,ey⟩,fun v H2 hy=>?_⟩
   obtain⟨p,x',y',hp,rfl,rfl,hall,hall'⟩:=hy
   have ex':=hall xs h2
   rw[ex] at ex'
   cases ex'
   have ey':=hall' ys h3
   rw[ey] at ey'
   cases ey'
   exact⟨_,Gr.alloc e2 hp _,Gr.tup e2 hp (Reps.cons (rx.mono e1) (Reps.cons (ry.mono e1) Reps.nil))⟩
end
end DL
namespace DL
open PySem PySem.Spec PyProof.Rows L2 PySem.W
def Gs (s:Stmt)(j:Nat):Stmt:=match s with
 |.ClassDef _ _ _ body _ _ _ _ _ _ _=>body.getD j (.Pass ⟨0,0,0,0⟩)
 |_=>.Pass ⟨0,0,0,0⟩
def U1 (q:Nat->Nat->Option Bool){α:Type}:KasT α->Option α
 |.ret a=>some a
 |.ask i j k=>match q i j with
  |some b=>U1 q (k b)
  |none=>none
theorem Fd {q:Nat->Nat->Option Bool}{cmp:Nat->Nat->(Bool->Shared->Prop)->Shared->Prop}{α:Type}{Q:α->Shared->Prop}{s:Shared}{a:α}(hc:∀i j b C,q i j=some b->C b s->cmp i j C s):∀t:KasT α,U1 q t=some a->Q a s->t.kasWp cmp Q s
 |.ret b,e,h=>by
  cases (Option.some.inj (show some b=some a from e))
  exact h
 |.ask i j k,e,h=>by
  unfold U1 at e
  cases z:q i j with
  |none=>rw[z] at e;cases e
  |some b=>
   rw[z] at e
   exact hc i j b _ z (Fd hc (k b) e h)
def Zld:V->V->Option Bool
 |.int a,.int b=>some (decide (a<b))
 |.str a,.str b=>some (decide (a.cps.toList<b.cps.toList))
 |_,_=>none
def Zkg:V->V->Option Bool
 |.int a,.int b=>some (a==b)
 |.str a,.str b=>some (a==b)
 |_,_=>none
def Zej:List V->List V->Option Bool
 |[],[]=>some false
 |x::xs,y::ys=>match Zkg x y with
  |some true=>Zej xs ys
  |some false=>Zld x y
  |none=>none
 |_,_=>none
section
variable {prog:Program}{w:World}{A:Around}{E:Value->Shared->Prop}{s:Shared}
def Zh5 {x y:V}{u v:Value}{b:Bool}{Q:Bool->Shared->Prop}(h:Zkg x y=some b)(rx:RelV x u)(ry:RelV y v)(q:Q b s):wpAny (model prog w) A (eqBool u v) Q E s:=by
 unfold Zkg at h
 split at h
 ·obtain⟨t,rfl⟩:=rx
  obtain⟨t',rfl⟩:=ry
  cases h
  exact wpAny_eqBool_int q
 ·obtain⟨t,rfl⟩:=rx
  obtain⟨t',rfl⟩:=ry
  cases h
  exact PyProof.Rows.eqBool_str q
 ·cases h
def Zh6 {o:Bool}{x y:V}{u v:Value}{b:Bool}{Q:Bool->Shared->Prop}(h:Zld x y=some b)(rx:RelV x u)(ry:RelV y v)(q:Q b s):wpAny (model prog w) A (oneLt' o u v) Q E s:=by
 unfold Zld at h
 split at h
 ·obtain⟨t,rfl⟩:=rx
  obtain⟨t',rfl⟩:=ry
  cases h
  cases o with
  |true=>exact oneLt_int q
  |false=>exact kat_one _ _ (PyProof.Rows.lt_int q)
 ·obtain⟨t,rfl⟩:=rx
  obtain⟨t',rfl⟩:=ry
  cases h
  cases o with
  |true=>exact PyProof.Rows.oneLt_str q
  |false=>exact kat_one _ _ (PyProof.Rows.lt_str q)
 ·cases h
theorem Zbf {o:Bool}{r:Bool}{Q:Bool->Shared->Prop}:∀{xs ys:List V}{us vs:List Value} (i:Nat),Zej xs ys=some r->Vals xs us->Vals ys vs->Q r s->KatLex prog w A o false Q (us.zip vs) i s
 |[],[],_,_,i,h,.nil,.nil,q=>by
  cases (Option.some.inj (show some false=some r from h))
  exact kat_nil q
 |x::xs,y::ys,_,_,i,h,.cons rx r1,.cons ry r2,q=>by
  unfold Zej at h
  refine kat_cons ?_
  cases z:Zkg x y with
  |none=>rw[z] at h;cases h
  |some b=>
   rw[z] at h
   refine Zh5 z rx ry ?_
   cases b with
   |true=>exact kat_yes (Zbf (i+1) h r1 r2 q)
   |false=>exact kat_no (Zh6 h rx ry q)
 |[],_::_,_,_,_,h,_,_,_=>by cases h
 |_::_,[],_,_,_,h,_,_,_=>by cases h
def Dr {a:Addr}{vs:List Value}{n:Nat}{κ:SortKind}{q:Nat->Nat->Option Bool}{p:Array Nat}{P:Fin->Shared->Prop} (ho:s.heap.get? a=some (seqObj "list" vs.toArray n)) (h2:2<=vs.length) (h64:vs.length<64)
  (hk:∀h',(∀b o,b≠a->s.heap.get? b=some o->h'.get? b=some o)->∀Q:SortKind->Shared->Prop,Q κ {s with heap:=h'}->wpAny (model prog w) A (keyKind' vs.toArray) Q E {s with heap:=h'})
  (hq:∀h',(∀b o,b≠a->s.heap.get? b=some o->h'.get? b=some o)->∀i j b (C:Bool->Shared->Prop),q i j=some b->C b {s with heap:=h'}->kas_ask prog w A κ vs i j C {s with heap:=h'})
  (hp:U1 q (kas_sort vs.length)=some p) (h:p.size=vs.length->P (.done (.ret .none)) {s with heap:=sortedHeap s.heap a vs (p.toList.map fun i=>vs.getD i Value.none).toArray}):
  wpAny (model prog w) A (Builtin.«list.sort» ⟨[.ref a],[]⟩) P E s:=by
 have la:a<s.heap.objs.size:=Heap.lt_size ho
 obtain⟨e1,ho1⟩:∃e1,(s.heap.update a (Obj.mapSeq fun _=>#[])).get? a=some (seqObj "list" #[] e1):=⟨_,get?_update_seq ho fun _=>#[]⟩
 have keep:∀b o,b≠a->s.heap.get? b=some o->(((s.heap.update a (Obj.mapSeq fun _=>#[])).push (seqObj "tuple" vs.toArray 0)).push (seqObj "list" #[] 0)).get? b=some o:=
  fun b o nb e=>Heap.get?_push_of_some _ (Heap.get?_push_of_some _ ((Heap.get?_update_other _ _ (Ne.symm nb)).trans e))
 have ho6:(((s.heap.update a (Obj.mapSeq fun _=>#[])).push (seqObj "tuple" vs.toArray 0)).push (seqObj "list" #[] 0)).get? a=some (seqObj "list" #[] e1):=Heap.get?_push_of_some _ (Heap.get?_push_of_some _ ho1)
 have z1:vs.toArray.size<=sizeLine:=by rw[List.size_toArray,sizeLine_eq];lia
 have n2:¬vs.toArray.size<2:=by rw[List.size_toArray];lia
 rw[list_sort_plain]
 refine wpAny_bind (listItems_at ho rfl (wpAny_bind (listUpdate_at ho rfl (wpAny_bind (seqEpoch_at ho1 rfl (wpAny_bind (wpAny_newTuple (wpAny_bind (wpAny_newList (wpAny_holding ?_) (Nat.zero_le _))) (by simpa using z1))))) z1 (Nat.zero_le _))))
 dsimp only
 rw[if_neg n2,if_neg n2]
 refine wpAny_bind (hk _ keep _ ?_)
 have hz:(vs.toArray.zip vs.toArray)=pairsOf vs:=rfl
 refine wpAny_bind (wpAny_mono (kat_run (ks:=vs) (vs:=vs) (κ:=κ) (Q:=fun st' s'=>p.size=vs.length/\arrOf st'=p.map (kas_item (vs.toArray.zip vs.toArray))/\failedOf st'=none/\s'=_) (G:=fun p' s'=>p'=p/\s'=_) rfl h2 h64
  (fun p' st' s' a1 a2 a3 a4=>by obtain⟨rfl,e⟩:=a4;exact⟨a1,a2,a3,e⟩) (Fd (hq _ keep) _ hp ⟨rfl,rfl⟩)) ?_ fun _ _ x=>x)
 rintro⟨⟨⟩,st'⟩ s' ⟨zz,har,hf,rfl⟩
 dsimp only
 have hout:=kat_snds (ks:=vs) (vs:=vs) rfl har
 refine wpAny_bind (seqEpoch_at ho6 rfl (wpAny_bind (listUpdate_at ho6 rfl ?_ (Nat.zero_le _) (by rw[hout,List.size_toArray,List.length_map,Array.length_toList,zz,sizeLine_eq];lia))))
 rw[hf]
 simp only[bne_self_eq_false,Bool.false_eq_true,if_false]
 rw[hout]
 exact wpAny_pure (h zz)
def As {t:Bool}{l:Addr}{vs:List Value}{Q:List Value->Shared->Prop}(hl:SqK t s.heap l vs.toArray) (h:Q vs {s with heap:=(s.heap.push (seqObj "list" #[] 0)).update s.heap.objs.size (Obj.mapSeq (·++vs.toArray))}) (hz:vs.length<=sizeLine):
  wpAny (model prog w) A (collect (.ref l)) Q E s:=by
 cases t with
 |false=>exact collect_list (show s.heap.IsList l vs.toArray from hl) h hz
 |true=>
  obtain⟨o,ho,hc,n,hd⟩:=id hl
  have ho':(s.heap.push (seqObj "list" #[] 0)).get? l=some o:=Heap.get?_push_of_some _ ho
  have hn:(s.heap.push (seqObj "list" #[] 0)).get? s.heap.objs.size=some (seqObj "list" #[] 0):=Heap.get?_push_size _ rfl
  unfold collect
  refine wpAny_bind (wpAny_runValue (codeAny_builtin entry_proto_collect' (wpAny_bind (m:=newList []) (wpAny_newList (wpAny_pure ⟨Code.quiet_builtin _ (by decide +kernel),codeAny_builtin entry_list_iadd' ?_⟩)))))
  change wpAny _ _ (Builtin.List.listExtendWith _ _ _) _ _ _
  unfold Builtin.List.listExtendWith
  refine wpAny_bind (wpAny_typeOf (T:="tuple") ⟨o,ho',hc⟩ ?_)
  have ht:(Value.type "tuple"== Value.type "tuple")=true:=by rfl
  rw[if_pos (by rw[ht];simp)]
  refine wpAny_bind (listItems_at ho' hd (wpAny_bind (listItems_at hn rfl ?_)))
  rw[if_neg (by simp)]
  refine wpAny_bind (listUpdate_at hn rfl (wpAny_pure ?_) (Nat.zero_le _) (by show(#[]++vs.toArray).size<=_;simp only[Array.size_append,List.size_toArray,List.length_nil];lia))
  change wpAny _ _ (do
   let o <-load s.heap.objs.size
   match o.data with
   |.seq xs _=>pure xs.toList
   |_=>unsupported "internal:collect") Q E _
  refine wpAny_bind (wpAny_load (get?_update_seq hn _) ?_)
  change wpAny _ _ (pure ((#[]:Array Value)++vs.toArray).toList) Q E _
  have e0:((#[]:Array Value)++vs.toArray).toList=vs:=by simp
  rw[e0]
  exact wpAny_pure h
def Zek {t:Bool}{l:Addr}{vs:List Value}{κ:SortKind}{q:Nat->Nat->Option Bool}{p:Array Nat}{Q:Value->Shared->Prop}(hl:SqK t s.heap l vs.toArray)(h2:2<=vs.length)(h64:vs.length<64)(hk:∀A' E' h',(∀b o,s.heap.get? b=some o->h'.get? b=some o)->∀Q:SortKind->Shared->Prop,Q κ {s with heap:=h'}->wpAny (model prog w) A' (keyKind' vs.toArray) Q E' {s with heap:=h'})(hq:∀A' h',(∀b o,s.heap.get? b=some o->h'.get? b=some o)->∀i j b (C:Bool->Shared->Prop),q i j=some b->C b {s with heap:=h'}->kas_ask prog w A' κ vs i j C {s with heap:=h'})(hp:U1 q (kas_sort vs.length)=some p)(h:p.size=vs.length->Q (.ref (s.heap.objs.size+1)) {s with heap:=sortedAll s.heap vs (p.toList.map fun i=>vs.getD i Value.none).toArray}):
  wpAny (model prog w) A (call (.builtin "sorted") [.ref l]) Q E s:=by
 have z1:vs.length<=sizeLine:=by rw[sizeLine_eq];lia
 refine Calls.call_function_entry kind_sorted plain_sorted entry_sorted (args_sorted1 _) ?_
 unfold Builtin.«sorted»
 refine wpAny_bind (m:=checkCount "sorted" 1 1 _) (wpAny_pure (wpAny_bind (As hl (wpAny_bind (wpAny_newList ?_ z1)) z1)))
 have hsz:((s.heap.push (seqObj "list" #[] 0)).update s.heap.objs.size (Obj.mapSeq (·++vs.toArray))).objs.size=s.heap.objs.size+1:=(Heap.size_update ..).trans (size_push' ..)
 have hoL:(((s.heap.push (seqObj "list" #[] 0)).update s.heap.objs.size (Obj.mapSeq (·++vs.toArray))).push (seqObj "list" vs.toArray 0)).get? (s.heap.objs.size+1)=some (seqObj "list" vs.toArray 0):=hsz▸Heap.get?_push_size _ rfl
 have keep:∀b o,s.heap.get? b=some o->(((s.heap.push (seqObj "list" #[] 0)).update s.heap.objs.size (Obj.mapSeq (·++vs.toArray))).push (seqObj "list" vs.toArray 0)).get? b=some o:=fun b o e=>
  Heap.get?_push_of_some _ ((Heap.get?_update_other _ _ (Nat.ne_of_gt (Heap.lt_size e))).trans (Heap.get?_push_of_some _ e))
 have nb:∀b o,s.heap.get? b=some o->b≠s.heap.objs.size+1:=fun b o e=>Nat.ne_of_lt (Nat.lt_succ_of_lt (Heap.lt_size e))
 change wpAny _ _ _ _ _ {s with heap:=((s.heap.push (seqObj "list" #[] 0)).update s.heap.objs.size (Obj.mapSeq (·++vs.toArray))).push (seqObj "list" vs.toArray 0)}
 rw[hsz]
 refine wpAny_bind (wpAny_holding (wpAny_call_entry slot_list_sort ⟨_,hoL,rfl⟩ entry_list_sort (Dr (κ:=κ) (q:=q) (p:=p) hoL h2 h64 (fun h' e Q hQ=>hk _ _ h' (fun b o z=>e b o (nb b o z) (keep b o z)) Q hQ)
  (fun h' e=>hq _ h' fun b o z=>e b o (nb b o z) (keep b o z)) hp fun hz=>⟨_,rfl,wpAny_pure ⟨_,rfl,h hz⟩⟩) (args_list_sort _)))
def Ds {a:Addr}{vs:List Value}{n:Nat}{P:Fin->Shared->Prop} (ho:s.heap.get? a=some (seqObj "list" vs.toArray n)) (h2:vs.length<2)
  (h:P (.done (.ret .none)) {s with heap:=sortedHeap s.heap a vs vs.toArray}):wpAny (model prog w) A (Builtin.«list.sort» ⟨[.ref a],[]⟩) P E s:=by
 obtain⟨e1,ho1⟩:∃e1,(s.heap.update a (Obj.mapSeq fun _=>#[])).get? a=some (seqObj "list" #[] e1):=⟨_,get?_update_seq ho fun _=>#[]⟩
 have ho6:(((s.heap.update a (Obj.mapSeq fun _=>#[])).push (seqObj "tuple" vs.toArray 0)).push (seqObj "list" #[] 0)).get? a=some (seqObj "list" #[] e1):=Heap.get?_push_of_some _ (Heap.get?_push_of_some _ ho1)
 have z1:vs.toArray.size<=sizeLine:=by rw[List.size_toArray,sizeLine_eq];lia
 rw[list_sort_plain]
 refine wpAny_bind (listItems_at ho rfl (wpAny_bind (listUpdate_at ho rfl (wpAny_bind (seqEpoch_at ho1 rfl (wpAny_bind (wpAny_newTuple (wpAny_bind (wpAny_newList (wpAny_holding ?_) (Nat.zero_le _))) (by simpa using z1))))) z1 (Nat.zero_le _))))
 dsimp only
 have n2:vs.toArray.size<2:=by rw[List.size_toArray];exact h2
 rw[if_pos n2,if_pos n2]
 refine wpAny_bind (wpAny_pure ?_)
 rw[StateT.run_pure]
 refine wpAny_bind (wpAny_pure ?_)
 dsimp only
 have eo:(vs.toArray.zip vs.toArray).map (·.2)=vs.toArray:=by
  apply Array.toList_inj.mp
  rw[Array.toList_map,Array.toList_zip,List.map_snd_zip]
  lia
 refine wpAny_bind (seqEpoch_at ho6 rfl (wpAny_bind (listUpdate_at ho6 rfl ?_ (Nat.zero_le _) (by show((vs.toArray.zip vs.toArray).map (·.2)).size<=_;rw[eo];lia))))
 simp only[bne_self_eq_false,Bool.false_eq_true,if_false]
 change wpAny _ _ (ret .none) _ _ {s with heap:=sortedHeap s.heap a vs ((vs.toArray.zip vs.toArray).map (·.2))}
 rw[eo]
 exact wpAny_pure h
def Zel {t:Bool}{l:Addr}{vs:List Value}{Q:Value->Shared->Prop}(hl:SqK t s.heap l vs.toArray)(h2:vs.length<2)(h:Q (.ref (s.heap.objs.size+1)) {s with heap:=sortedAll s.heap vs vs.toArray}):
  wpAny (model prog w) A (call (.builtin "sorted") [.ref l]) Q E s:=by
 have z1:vs.length<=sizeLine:=by rw[sizeLine_eq];lia
 refine Calls.call_function_entry kind_sorted plain_sorted entry_sorted (args_sorted1 _) ?_
 unfold Builtin.«sorted»
 refine wpAny_bind (m:=checkCount "sorted" 1 1 _) (wpAny_pure (wpAny_bind (As hl (wpAny_bind (wpAny_newList ?_ z1)) z1)))
 have hsz:((s.heap.push (seqObj "list" #[] 0)).update s.heap.objs.size (Obj.mapSeq (·++vs.toArray))).objs.size=s.heap.objs.size+1:=(Heap.size_update ..).trans (size_push' ..)
 have hoL:(((s.heap.push (seqObj "list" #[] 0)).update s.heap.objs.size (Obj.mapSeq (·++vs.toArray))).push (seqObj "list" vs.toArray 0)).get? (s.heap.objs.size+1)=some (seqObj "list" vs.toArray 0):=hsz▸Heap.get?_push_size _ rfl
 change wpAny _ _ _ _ _ {s with heap:=((s.heap.push (seqObj "list" #[] 0)).update s.heap.objs.size (Obj.mapSeq (·++vs.toArray))).push (seqObj "list" vs.toArray 0)}
 rw[hsz]
 exact wpAny_bind (wpAny_holding (wpAny_call_entry slot_list_sort ⟨_,hoL,rfl⟩ entry_list_sort (Ds hoL h2 ⟨_,rfl,wpAny_pure ⟨_,rfl,h⟩⟩) (args_list_sort _)))
end
def Gu:List V->Bool
 |.str _::_=>true
 |_=>false
def Gv:List V->Bool
 |.int _::_=>true
 |_=>false
def RowsH (h:Heap):List Value->List (List V)->Prop:=Paired fun u y=>∃a us,u=Value.ref a/\IsTup h a us.toArray/\Vals y us
def RowsH.mono {h h':Heap}{us:List Value}{ys:List (List V)}(k:∀b o,h.get? b=some o->h'.get? b=some o)(r:RowsH h us ys):RowsH h' us ys:=
 Paired.mapP r fun u y q=>by
  obtain⟨a,vs,e,⟨o,e1,e2⟩,e3⟩:=q
  exact⟨a,vs,e,⟨o,k _ _ e1,e2⟩,e3⟩
theorem RowsH.firstS {h:Heap}:∀{us:List Value}{ys:List (List V)},RowsH h us ys->ys.all Gu=true->∃fs,KatTups h us fs/\(∀v∈fs,∃x t,v=Value.str x t)/\fs.length=us.length
 |_,_,.nil,_=>⟨[],KatTups.nil,fun v hv=>(by cases hv),rfl⟩
 |_,y::ys,.cons q r,hs=>by
  rw[List.all_cons,Bool.and_eq_true] at hs
  obtain⟨fs,k1,k2,k3⟩:=RowsH.firstS r hs.2
  obtain⟨a,vs,rfl,⟨o,e1,e2,n,e3⟩,e4⟩:=q
  cases y with
  |nil=>simp[Gu] at hs
  |cons z y=>
   cases z with
   |str x=>
    cases e4 with
    |cons rx rr=>
     obtain⟨t,rfl⟩:=rx
     exact⟨Value.str x t::fs,KatTups.cons e1 e2 e3 (by simp) k1,fun v hv=>by
      rcases List.mem_cons.mp hv with rfl|hv
      ·exact⟨x,t,rfl⟩
      ·exact k2 v hv,by rw[List.length_cons,List.length_cons,k3]⟩
   |_=>simp[Gu] at hs
theorem RowsH.firstI {h:Heap}:∀{us:List Value}{ys:List (List V)},RowsH h us ys->ys.all Gv=true->∃fs,KatTups h us fs/\(∀v∈fs,∃x t,v=Value.int x t)/\fs.length=us.length
 |_,_,.nil,_=>⟨[],KatTups.nil,fun v hv=>(by cases hv),rfl⟩
 |_,y::ys,.cons q r,hs=>by
  rw[List.all_cons,Bool.and_eq_true] at hs
  obtain⟨fs,k1,k2,k3⟩:=RowsH.firstI r hs.2
  obtain⟨a,vs,rfl,⟨o,e1,e2,n,e3⟩,e4⟩:=q
  cases y with
  |nil=>simp[Gv] at hs
  |cons z y=>
   cases z with
   |int x=>
    cases e4 with
    |cons rx rr=>
     obtain⟨t,rfl⟩:=rx
     exact⟨Value.int x t::fs,KatTups.cons e1 e2 e3 (by simp) k1,fun v hv=>by
      rcases List.mem_cons.mp hv with rfl|hv
      ·exact⟨x,t,rfl⟩
      ·exact k2 v hv,by rw[List.length_cons,List.length_cons,k3]⟩
   |_=>simp[Gv] at hs
theorem RowsH.get {h:Heap}:∀{us:List Value}{ys:List (List V)}{i:Nat}{y:List V},RowsH h us ys->ys[i]?=some y->∃a vs,us.getD i Value.none=Value.ref a/\IsTup h a vs.toArray/\Vals y vs
 |_,_,_,_,.nil,e=>by simp at e
 |_,_,0,_,.cons q _,e=>by
  simp at e
  subst e
  obtain⟨a,vs,rfl,e1,e2⟩:=q
  exact⟨a,vs,rfl,e1,e2⟩
 |_,_,i+1,_,.cons _ r,e=>by
  obtain⟨a,vs,e1,e2,e3⟩:=RowsH.get (i:=i) r (by simpa using e)
  exact⟨a,vs,by simpa using e1,e2,e3⟩
def Tl (ys:List (List V))(i j:Nat):Option Bool:=match ys[i]?,ys[j]? with
 |some x,some y=>if x.length=y.length then Zej x y else none
 |_,_=>none
def Zem {prog:Program}{w:World}{A:Around}{s:Shared}{o:Bool}{us:List Value}{ys:List (List V)}(r:RowsH s.heap us ys){i j:Nat}{b:Bool}{C:Bool->Shared->Prop}(e:Tl ys i j=some b)(h:C b s):kas_ask prog w A (tuples' o) us i j C s:=by
 unfold Tl at e
 split at e
 ·rename_i x y ex ey
  split at e
  ·rename_i hl
   obtain⟨a,vs,e1,⟨o1,e2,_,n,e3⟩,e4⟩:=r.get ex
   obtain⟨a',vs',e1',⟨o1',e2',_,n',e3'⟩,e4'⟩:=r.get ey
   unfold kas_ask
   rw[e1,e1']
   refine kat_lt e2 e3 e2' e3' ?_
   have l1:=e4.length
   have l2:=e4'.length
   have:decide (vs.toArray.size<vs'.toArray.size)=false:=decide_eq_false (by rw[List.size_toArray,List.size_toArray];lia)
   rw[this]
   exact Zbf 0 e e4 e4' h
  ·cases e
 ·cases e
def RowsT (H:Hp):List V->List (List V)->Prop:=Paired fun z y=>∃a,z=V.ref a/\H a=some (.tup y)
theorem Zbg {X:Cx}{pins:List (Addr×Obj)}{σ:L2.St}{H:Hp}{s:Shared}(I:Inv X pins σ H s):∀{zs:List V}{ys:List (List V)}{us:List Value},RowsT H zs ys->Vals zs us->RowsH s.heap us ys
 |_,_,_,.nil,.nil=>.nil
 |_,_,_,.cons q r,.cons v t=>.cons (by
   obtain⟨a,rfl,e⟩:=q
   cases v
   obtain⟨its,rv,p,_⟩:=I.tuple (SqT.of e)
   exact⟨a,its,rfl,p,rv⟩) (Zbg I r t)
theorem Lh {zs:List V}{us:List Value}(r:Vals zs us):∀l:List Nat,Vals (l.map fun i=>zs.getD i .non) (l.map fun i=>us.getD i Value.none)
 |[]=>.nil
 |i::l=>.cons (by
   by_cases h:i<zs.length
   ·obtain⟨u,e1,e2⟩:=r.get (List.getElem?_eq_getElem h)
    dsimp only
    rw[List.getD_eq_getElem?_getD,List.getD_eq_getElem?_getD,e1,List.getElem?_eq_getElem h]
    exact e2
   ·have h1:zs[i]?=none:=List.getElem?_eq_none_iff.mpr (by lia)
    have h2:us[i]?=none:=r.none_of h1
    dsimp only
    rw[List.getD_eq_getElem?_getD,List.getD_eq_getElem?_getD,h1,h2]
    exact rfl) (Lh r l)
section
variable {X:Cx}{E:XK}
def Dt:CallR X (.builtin "sorted") (fun xs H Q=>∃(t:Bool) (p:Addr) (zs:List V) (ys:List (List V)) (q:Array Nat),xs=[.ref p]/\R7 t X.K H p zs/\RowsT H zs ys/\2<=zs.length/\zs.length<64/\(ys.all Gu||ys.all Gv)=true /\
  U1 (Tl ys) (kas_sort zs.length)=some q/\∀l,H l=none->Q (.ref l) (upd H l (.lst (q.toList.map fun i=>zs.getD i .non)))):=by
 intro pins s σ H xs us Q I r h
 obtain⟨t,p,zs,ys,q,rfl,hp,hr,h2,h64,hh,hq,k⟩:=h
 obtain⟨u,rfl,rx⟩:=U5 r
 cases rx
 obtain⟨its,rv,pl⟩:=Vg I hp
 have hl:=rv.length
 have rows:=Zbg I hr rv
 have kind:∃o:Bool,∀A' E' h',(∀b o,s.heap.get? b=some o->h'.get? b=some o)->∀Q:SortKind->Shared->Prop,Q (tuples' o) {s with heap:=h'}->wpAny (model X.prog X.w) A' (keyKind' its.toArray) Q E' {s with heap:=h'}:=by
  rcases Bool.or_eq_true _ _▸hh with hh|hh
  ·refine⟨Value.type "str" != Value.type "tuple", fun A' E' h' e Q hQ=>?_⟩
   obtain⟨fs,k1,k2,k3⟩:=(rows.mono e).firstS hh
   exact kat_kind (s:={s with heap:=h'}) (T:=Value.type "str") k1 (by lia) (fun v hv=>by obtain⟨x,t,rfl⟩:=k2 v hv;exact Looks.of_pure rfl) (by rfl) hQ
  ·refine⟨Value.type "int" != Value.type "tuple", fun A' E' h' e Q hQ=>?_⟩
   obtain⟨fs,k1,k2,k3⟩:=(rows.mono e).firstI hh
   exact kat_kind (s:={s with heap:=h'}) (T:=Value.type "int") k1 (by lia) (fun v hv=>by obtain⟨x,t,rfl⟩:=k2 v hv;exact Looks.of_pure rfl) (by rfl) hQ
 obtain⟨o,kind⟩:=kind
 refine Zek (κ:=tuples' o) (q:=Tl ys) (p:=q) pl (by lia) (by lia) kind (fun A' h' e i j b C z c=>Zem (s:={s with heap:=h'}) (rows.mono e) z c) (by rw[<-hl];exact hq) fun hz=>?_
 obtain⟨n,he⟩:=sortedAll_at s.heap its (q.toList.map fun i=>its.getD i Value.none).toArray
 refine⟨.ref (s.heap.objs.size+1),_,I.laid (t':=s.toks) (o:=.lst (q.toList.map fun i=>zs.getD i .non)) (fun b o e=>sortedAll_old e) (Nat.le_succ _) ?_,rfl,k _ (I.hok.fresh (Nat.le_succ _))⟩
 refine⟨?_,(q.toList.map fun i=>its.getD i Value.none),n,Lh rv _,by simpa using he⟩
 rw[List.length_map,Array.length_toList,hz,sizeLine_eq]
 lia
def Au:CallR X (.builtin "sorted") (fun xs H Q=>(∃(t:Bool) (p:Addr) (zs:List V),xs=[.ref p]/\R7 t X.K H p zs/\zs.length<2/\∀l,H l=none->Q (.ref l) (upd H l (.lst zs))) \/
  ∃(t:Bool) (p:Addr) (zs:List V) (ys:List (List V)) (q:Array Nat),xs=[.ref p]/\R7 t X.K H p zs/\RowsT H zs ys/\2<=zs.length/\zs.length<64/\(ys.all Gu||ys.all Gv)=true /\
  U1 (Tl ys) (kas_sort zs.length)=some q/\∀l,H l=none->Q (.ref l) (upd H l (.lst (q.toList.map fun i=>zs.getD i .non)))):=by
 intro pins s σ H xs us Q I r h
 rcases h with h|h
 ·obtain⟨t,p,zs,rfl,hp,h2,k⟩:=h
  obtain⟨u,rfl,rx⟩:=U5 r
  cases rx
  obtain⟨its,rv,pl⟩:=Vg I hp
  have hl:=rv.length
  refine Zel pl (by lia) ?_
  obtain⟨n,he⟩:=sortedAll_at s.heap its its.toArray
  refine⟨.ref (s.heap.objs.size+1),_,I.laid (t':=s.toks) (o:=.lst zs) (fun b o e=>sortedAll_old e) (Nat.le_succ _) ?_,rfl,k _ (I.hok.fresh (Nat.le_succ _))⟩
  refine⟨?_,its,n,rv,by simpa using he⟩
  rw[sizeLine_eq]
  lia
 ·exact Dt _ _ _ _ _ _ _ I r h
def Zbh:D->Option V
 |.int i=>some (.int i)
 |.str x=>some (.str x)
 |_=>none
def Mu:List D->Option (List V)
 |[]=>some []
 |d::r=>match Zbh d,Mu r with
  |some v,some vs=>some (v::vs)
  |_,_=>none
def R8:List D->Option (List (List V))
 |[]=>some []
 |.tup ds::r=>match Mu ds,R8 r with
  |some v,some vs=>some (v::vs)
  |_,_=>none
 |_::_=>none
def Oa {K:PySem.W.Frag}{H:Hp}{d:D}{v x:V}(e:Zbh d=some v)(r:Rep K H d x):x=v:=by
 unfold Zbh at e
 split at e
 ·cases e;exact rep_int.mp r
 ·cases e;exact rep_str.mp r
 ·cases e
theorem Pj {K:PySem.W.Frag}{H:Hp}:∀{ds:List D}{vs xs:List V},Mu ds=some vs->Reps K H ds xs->xs=vs
 |[],vs,xs,e,r=>by
  cases e
  exact reps_nil.mp r
 |d::ds,vs,xs,e,r=>by
  obtain⟨x,t,rfl,h1,h2⟩:=reps_cons.mp r
  unfold Mu at e
  split at e
  ·rename_i a b ea eb
   cases e
   rw[Oa ea h1,Pj eb h2]
  ·cases e
theorem R9 {K:PySem.W.Frag}{H:Hp}:∀{ds:List D}{ys:List (List V)}{xs:List V},R8 ds=some ys->Reps K H ds xs->RowsT H xs ys
 |[],ys,xs,e,r=>by
  cases e
  rw[reps_nil.mp r]
  exact .nil
 |d::ds,ys,xs,e,r=>by
  obtain⟨x,t,rfl,h1,h2⟩:=reps_cons.mp r
  cases d with
  |tup es=>
   unfold R8 at e
   split at e
   ·rename_i a b ea eb
    cases e
    obtain⟨p,us,rfl,hp,hr⟩:=rep_tup.mp h1
    have:=Pj ea hr
    subst this
    exact .cons ⟨p,rfl,hp⟩ (R9 eb h2)
   ·cases e
  |_=>cases e
def RowsT.mono {H H':Hp}{xs:List V}{ys:List (List V)}(e:Same H H')(r:RowsT H xs ys):RowsT H' xs ys:=Paired.mapP r fun _ _ q=>by
 obtain⟨a,h1,h2⟩:=q
 exact⟨a,h1,e _ _ h2⟩
theorem Li {K:PySem.W.Frag}{H:Hp}{ds:List D}{zs:List V}(r:Reps K H ds zs):∀l:List Nat,Reps K H (l.map fun i=>ds.getD i .non) (l.map fun i=>zs.getD i .non)
 |[]=>Reps.nil
 |i::l=>Reps.cons (by
   by_cases h:i<ds.length
   ·obtain⟨x,e1,e2⟩:=r.get (List.getElem?_eq_getElem h)
    dsimp only
    rw[List.getD_eq_getElem?_getD,List.getD_eq_getElem?_getD,e1,List.getElem?_eq_getElem h]
    exact e2
   ·have h1:ds[i]?=none:=List.getElem?_eq_none_iff.mpr (by lia)
    have h2:zs[i]?=none:=r.none_of h1
    dsimp only
    rw[List.getD_eq_getElem?_getD,List.getD_eq_getElem?_getD,h1,h2]
    exact rep_non.mpr rfl) (Li r l)
def Mv (ds:List D):M D:=match R8 ds with
 |some ys=>if 2<=ds.length/\ds.length<64/\(ys.all Gu||ys.all Gv)=true then(match U1 (Tl ys) (kas_sort ds.length) with
   |some p=>.ok (.lst (p.toList.map fun i=>ds.getD i .non))
   |none=>.bad) else .bad
 |none=>.bad
def Nv (ds:List D):M D:=if ds.length<2 then .ok (.lst ds) else Mv ds
def Nw:List D->M D
 |[.lst ds]=>Nv ds
 |[.tup ds]=>Nv ds
 |_=>.bad
def Ob {t:Bool}{Hf H:Hp}{p:Addr}{zs:List V}{ds:List D}{Q:VK}(e:Same Hf H)(hp:R7 t X.K Hf p zs)(hr:Reps X.K Hf ds zs)(q:Po X.K E (rV X.K) Hf H (Mv ds) Q):
  ∃(t:Bool) (p':Addr) (zs:List V) (ys:List (List V)) (q:Array Nat),[V.ref p]=[V.ref p']/\R7 t X.K H p' zs/\RowsT H zs ys/\2<=zs.length/\zs.length<64/\(ys.all Gu||ys.all Gv)=true /\
  U1 (Tl ys) (kas_sort zs.length)=some q/\∀l,H l=none->Q (.ref l) (upd H l (.lst (q.toList.map fun i=>zs.getD i .non))):=by
 unfold Mv at q
 have hl:=hr.length
 split at q
 ·rename_i ys ey
  split at q
  ·rename_i hc
   split at q
   ·rename_i a ea
    exact⟨t,p,zs,ys,a,rfl,Ja e hp,(R9 ey hr).mono e,by lia,by lia,hc.2.2,by rw[<-hl];exact ea,fun l hl=>q _ _ _ (Gr.alloc e hl _) (Gr.lst e hl (Li hr _))⟩
   ·exact q.elim
  ·exact q.elim
 ·exact q.elim
def Lj {t:Bool}{Hf H:Hp}{p:Addr}{zs:List V}{ds:List D}{Q:VK}(e:Same Hf H)(hp:R7 t X.K Hf p zs)(hr:Reps X.K Hf ds zs)(q:Po X.K E (rV X.K) Hf H (Nv ds) Q):
  (∃(t:Bool) (p':Addr) (zs:List V),[V.ref p]=[V.ref p']/\R7 t X.K H p' zs/\zs.length<2/\∀l,H l=none->Q (.ref l) (upd H l (.lst zs))) \/
  ∃(t:Bool) (p':Addr) (zs:List V) (ys:List (List V)) (q:Array Nat),[V.ref p]=[V.ref p']/\R7 t X.K H p' zs/\RowsT H zs ys/\2<=zs.length/\zs.length<64/\(ys.all Gu||ys.all Gv)=true /\
  U1 (Tl ys) (kas_sort zs.length)=some q/\∀l,H l=none->Q (.ref l) (upd H l (.lst (q.toList.map fun i=>zs.getD i .non))):=by
 unfold Nv at q
 split at q
 ·rename_i h
  have hl:=hr.length
  exact .inl ⟨t,p,zs,rfl,Ja e hp,by lia,fun l hl=>q _ _ _ (Gr.alloc e hl _) (Gr.lst e hl hr)⟩
 ·exact .inr (Ob e hp hr q)
def Av:Uz X E (.builtin "sorted") Nw:=by
 refine⟨_,Au,fun Hf H xs ds Q e r q=>?_⟩
 unfold Nw at q
 split at q
 ·obtain⟨x,rfl,h⟩:=Kf r
  obtain⟨p,ys,rfl,hp,hr⟩:=rep_lst.mp h
  exact Lj (t:=false) e hp hr q
 ·obtain⟨x,rfl,h⟩:=Kf r
  obtain⟨p,ys,rfl,hp,hr⟩:=Qm h
  exact Lj (t:=true) e hp hr q
 ·exact q.elim
variable {e:Expr}{x:Str}{pos p2:Pos}{a:Addr}{cs:List V}{f:Zi->M D}
end
section
variable {q:Nat->Nat->Option Bool}{n:Nat}
theorem Lk {α β:Type}{f:α->KasT β}:∀t:KasT α,U1 q (t.bind f)=(U1 q t).bind fun a=>U1 q (f a)
 |.ret _=>rfl
 |.ask i j k=>by
  have e1:∀{γ:Type} (k:Bool->KasT γ),U1 q (.ask i j k)=(q i j).bind fun b=>U1 q (k b):=fun k=>by
   rw[U1]
   cases q i j<;>rfl
  have e2:(KasT.ask i j k).bind f=.ask i j fun b=>(k b).bind f:=rfl
  rw[e2,e1,e1]
  cases q i j with
  |none=>rfl
  |some b=>exact Lk (k b)
def Rn (q:Nat->Nat->Option Bool){α:Type}(t:KasT α)(P:α->Prop):Prop:=∃a,U1 q t=some a/\P a
theorem Rn.bind {α β:Type}{t:KasT α}{f:α->KasT β}{P:α->Prop}{Q:β->Prop}(h:Rn q t P)(k:∀a,P a->Rn q (f a) Q):Rn q (t.bind f) Q:=by
 obtain⟨a,e,p⟩:=h
 obtain⟨b,e2,p2⟩:=k a p
 exact⟨b,by rw[Lk,e];exact e2,p2⟩
theorem Rn.ret {α:Type}{a:α}{P:α->Prop}(h:P a):Rn q (.ret a) P:=⟨a,rfl,h⟩
def Gp (n:Nat)(p:Array Nat):Prop:=p.Perm (List.toArray (List.range n))
def Gp.at {p:Array Nat}(h:Gp n p)(n0:0<n)(i:Nat):p.getD i 0<n:=by
 rw[Array.getD_eq_getD_getElem?]
 cases e:p[i]? with
 |none=>exact n0
 |some x=>
  have:=h.mem_iff.mp (Array.mem_of_getElem? e)
  simpa using this
def Gp.rev {p:Array Nat}(h:Gp n p)(i j:Nat):Gp n (kas_rev p i j):=(mirror_perm _ _ _ _).trans h
section
variable (n0:0<n) (ht:∀i j,i<n->j<n->∃b,q i j=some b)
theorem Rn.ask {α:Type}{i j:Nat}{k:Bool->KasT α}{P:α->Prop}(hi:i<n)(hj:j<n)(ht:∀i j,i<n->j<n->∃b,q i j=some b)(h:∀b,Rn q (k b) P):Rn q (.ask i j k) P:=by
 obtain⟨b,e⟩:=ht i j hi hj
 obtain⟨a,e2,p⟩:=h b
 refine⟨a,?_,p⟩
 unfold U1
 rw[e]
 exact e2
include n0 ht
theorem Du {p:Array Nat}(h:Gp n p):∀f k,Rn q (kas_asc p f k) fun _=>True
 |0,k=>.ret trivial
 |f+1,k=>by
  refine .ask (h.at n0 _) (h.at n0 _) ht fun c=>?_
  cases c
  ·exact Du h f (k+1)
  ·exact .ret trivial
theorem P8:∀f (p:Array Nat) k r,Gp n p->Rn q (kas_desc f p k r) fun a=>Gp n a.1
 |0,p,k,r,h=>.ret h
 |f+1,p,k,r,h=>by
  refine .ask (h.at n0 _) (h.at n0 _) ht fun c=>?_
  cases c
  ·refine .ask (h.at n0 _) (h.at n0 _) ht fun d=>?_
   cases d
   ·exact P8 f p _ _ h
   ·exact .ret h
  ·show Rn q (if r > 0 then _ else _) _
   split
   ·exact P8 f _ _ _ (h.rev _ _)
   ·exact P8 f _ _ _ h
def Fe {p:Array Nat}(h:Gp n p)(k m:Nat):Rn q (kas_tail3 k m p) fun a=>Gp n a.2:=(Du n0 ht (h.rev _ _) _ _).bind fun _ _=>.ret (h.rev _ _)
def Fg {p:Array Nat}(h:Gp n p)(k m:Nat):Rn q (kas_descPart k m p) fun a=>Gp n a.2:=(P8 n0 ht _ _ _ _ h).bind fun r hr=>by
 split
 ·exact Fe n0 ht (Gp.rev hr _ _) _ _
 ·exact Fe n0 ht hr _ _
def Zbi {p:Array Nat}(h:Gp n p)(m:Nat):Rn q (kas_count m p) fun a=>Gp n a.2:=(Du n0 ht h _ _).bind fun k _=>by
 split
 ·exact .ret h
 ·split
  ·refine .ask (h.at n0 _) (h.at n0 _) ht fun c=>?_
   cases c
   ·exact Fg n0 ht (h.rev _ _) _ _
   ·exact .ret h
  ·exact Fg n0 ht h _ _
theorem Sa {p:Array Nat}(h:Gp n p)(k:Nat):∀f l r,Rn q (kas_place p k f l r) fun _=>True
 |0,l,r=>.ret trivial
 |f+1,l,r=>by
  unfold kas_place
  split
  ·exact .ret trivial
  ·refine .ask (h.at n0 _) (h.at n0 _) ht fun c=>?_
   cases c
   ·exact Sa h k f _ _
   ·exact Sa h k f _ _
theorem Zbj:∀f (p:Array Nat) k,Gp n p->Rn q (kas_bin f p k) fun p=>Gp n p
 |0,p,k,h=>.ret h
 |f+1,p,k,h=>(Sa n0 ht h k _ _ _).bind fun l _=>Zbj f _ _ ((bubble_perm _ _ _).trans h)
def Zen:Rn q (kas_sort n) fun p=>Gp n p:=(Zbi n0 ht (Array.Perm.refl _) _).bind fun r hr=>by
 split
 ·exact Zbj n0 ht _ _ _ hr
 ·exact .ret hr
end
end
def Dv {ds:List D}{ys:List (List V)}(hr:R8 ds=some ys)(hl:ds.length<64)(hh:(ys.all Gu||ys.all Gv)=true)(hy:ys.length=ds.length)(hc:∀x∈ys,∀y∈ys,x.length=y.length/\∃b,Zej x y=some b):∃es:List D,es.Perm ds/\Nw [.lst ds]=.ok (.lst es):=by
 show ∃es:List D,es.Perm ds/\Nv ds=.ok (.lst es)
 unfold Nv
 by_cases h2:ds.length<2
 ·exact⟨ds,List.Perm.refl _,if_pos h2⟩
 ·rw[if_neg h2]
  obtain⟨p,e,hp⟩:=Zen (q:=Tl ys) (n:=ds.length) (by lia) fun i j hi hj=>by
   unfold Tl
   rw[List.getElem?_eq_getElem (by lia),List.getElem?_eq_getElem (by lia)]
   obtain⟨e,b,h⟩:=hc ys[i] (List.getElem_mem _) ys[j] (List.getElem_mem _)
   exact⟨b,by dsimp only;rw[if_pos e,h]⟩
  refine⟨p.toList.map fun i=>ds.getD i .non,?_,?_⟩
  ·have h1:p.toList.Perm (List.range ds.length):=by
    have:=Array.perm_iff_toList_perm.mp hp
    simpa using this
   have h3:=h1.map fun i=>ds.getD i D.non
   refine h3.trans (List.Perm.of_eq ?_)
   apply List.ext_getElem?
   intro i
   rw[List.getElem?_map]
   by_cases hi:i<ds.length
   ·rw[List.getElem?_range hi,List.getElem?_eq_getElem hi]
    simp[hi]
   ·rw[List.getElem?_eq_none (by rw[List.length_range];lia),List.getElem?_eq_none (by lia)]
    rfl
  ·unfold Mv
   rw[hr]
   dsimp only
   rw[if_pos ⟨by lia,hl,hh⟩,e]
end DL
namespace DL
open PySem PySem.Spec PyProof.Rows L2
def Pw (gt:D->Zi->M Zi)(fc:Zi->M Bool)(fe:Zi->M D)(sd0:Zi):List D->M (List D)
 |[]=>.ok []
 |d::ds=>match gt d sd0 with
  |.ok sd1=>match fc sd1 with
   |.ok true=>(match fe sd1 with
    |.ok e=>match Pw gt fc fe sd0 ds with
     |.ok es=>.ok (e::es)
     |_=>.bad
    |_=>.bad)
   |.ok false=>Pw gt fc fe sd0 ds
   |_=>.bad
  |_=>.bad
def Uj (fi:Zi->M (List D))(n0:Nat)(caps:List Nat)(gt:D->Zi->M Zi)(fc:Zi->M Bool)(fe:Zi->M D)(sd:Zi):M (List D):=(fi sd).bind fun ds=>if few ds then Pw gt fc fe (U0 n0 caps sd) ds else .bad
def Px {prog:Program}{w:World}{A:Around}{R:Result->Shared->Prop}{s:Shared}{elt target iter cnd:Expr}{scope:Scope}{pos:Pos}{it acc:Value}{env:Env}(I:Nat->Shared->Prop)
  (turn:∀n s,I n s->wpAny (model prog w) A (pyNext it) (fun r s₁=>match r with
   |none=>R (.ok .next) s₁
   |some v=>wpAny (model prog w) A (letOwnedTupleGo target it v) (fun _ s₂=>wpAny (model prog w) A (assign target env v) (fun _ s₃=>wpAny (model prog w) A (isTrue cnd env (eval cnd env)) (fun k s₃'=>if k=true then
     wpAny (model prog w) A (eval elt env) (fun x s₄=>wpAny (model prog w) A (call (.builtin "list.append") [acc,x]) (fun _ s₅=>∃m,m<n/\I m s₅) (fun _ _=>False) s₄) (fun _ _=>False) s₃' else ∃m,m<n/\I m s₃') (fun _ _=>False) s₃) (fun _ _=>False) s₂) (fun _ _=>False) s₁) (fun _ _=>False) s)
  (n:Nat) (h:I n s):
  codeAny (model prog w) A (.compLoop (.ListComp elt [⟨target,iter,[cnd],0⟩] scope pos) 0 it acc env) R s:=by
 refine codeAny_loop rfl I (fun n s hI=>?_) n h
 change wpAny _ A ((compTurn (.ListComp elt [⟨target,iter,[cnd],0⟩] scope pos) 0 it acc env).onRaise (fun x=>do noteFrame x env;theTreesLotGoes x)) _ _ s
 refine wpAny_noted ?_
 rw[compTurn_list]
 refine wpAny_bind (wpAny_standAt (wpAny_bind (wpAny_mono (turn n s hI) (fun r s₁ h₁=>?_) fun _ _ h'=>h'.elim)))
 cases r with
 |none=>exact wpAny_pure h₁
 |some v=>
  refine wpAny_bind (wpAny_mono h₁ (fun _ s₂ h₂=>wpAny_bind (wpAny_mono h₂ (fun _ s₃ h₃=>?_) fun _ _ h'=>h'.elim)) fun _ _ h'=>h'.elim)
  refine wpAny_bind (wpAny_tests_one (wpAny_mono h₃ (fun k s₄ h₄=>?_) fun _ _ h'=>h'.elim))
  cases k with
  |true=>
   rw[if_pos rfl] at h₄
   simp only[if_true]
   exact wpAny_bind (wpAny_bind (wpAny_mono h₄ (fun x s₄ h₄=>wpAny_bind (wpAny_mono h₄ (fun _ s₅ h₅=>wpAny_pure (wpAny_pure ⟨rfl,h₅⟩)) fun _ _ h'=>h'.elim)) fun _ _ h'=>h'.elim))
  |false=>
   rw[if_neg (by decide)] at h₄
   simp only[Bool.false_eq_true,if_false]
   exact wpAny_pure ⟨rfl,h₄⟩
def Dw {X:Cx}{E:XK}{pos:Pos}{tg elt iter cnd:Expr}{scope:Scope}{Nc:List Str}{n0:Nat}{caps:List Nat}{cl:List (Str×Addr)}{fi:Zi->M (List D)}{gt:D->Zi->M Zi}{fe:Zi->M D}{fc:Zi->M Bool}(hc:X.calm=true)(hclos:closureFor scope X.env=pure cl)(cap:CapOk X Nc n0 caps scope cl)(hkind:scope.kind=.function)(hcell:∀y∈scope.names,y.2≠.cell)(hnames:∀y∈scope.names,y.2=.local->scope.names.lookup y.1=some .local)(hk:Zh2 n0 gt)(hi:Zhx X E tg iter fi)(hg:∀s3 H3 C ex,Zhu (Ug X Nc scope cl s3 H3 C ex) tg gt)(hcd:∀s3 H3 C ex,B0 (Ug X Nc scope cl s3 H3 C ex) E0 cnd fc)(he:∀s3 H3 C ex,Xo (Ug X Nc scope cl s3 H3 C ex) E0 elt fe)(hs:∀x,foldedSetIterable iter X.env x=pure x:=by intro _;rfl):
  Zi6 X E (.ListComp elt [⟨tg,iter,[cnd],0⟩] scope pos) (Uj fi n0 caps gt fc fe):=by
 refine⟨fun σ H Q=>∃H0 B Hf sd,SR X.K H0 B Hf sd σ H/\PoF X.K E Hf H (Uj fi n0 caps gt fc fe sd) Q,?_,fun H0 B Hf sd σ H Q sr h=>⟨H0,B,Hf,sd,sr,h⟩⟩
 rintro pins s σ H Q I ⟨H0,B,Hf,sd,sr,h⟩
 obtain⟨wi,pw,qw⟩:=hi
 rw[eval_ListComp]
 refine wpAny_comprehension_free (use:=none) rfl hs hclos hkind hnames ?_
 have step:=pw pins s σ H (fun J H2=>∃ds Hf2,Gr Hf H Hf2 H2/\Pt X.K Hf2 H2 ds J/\PoF X.K E Hf2 H2 (if few ds then Pw gt fc fe (U0 n0 caps sd) ds else .bad) Q) I
  (qw H0 B Hf sd σ H _ sr (PoF.bind h fun ds J Hf2 H2 _ g2 jok h2=>⟨ds,Hf2,g2,jok,h2⟩))
 refine Yx step fun v s1 h1=>Yx h1 fun itv s2 h2=>?_
 obtain⟨it,fp,tn,J,H2,rfl,I2,T,st2,f2,ds,Hf2,g2,jok,hq⟩:=h2
 have sr2:=sr.gr g2
 split at hq
 case isFalse=>exact hq.elim
 case isTrue hfew=>
 have fresh:H2 s2.heap.objs.size=none:=I2.hok.fresh (Nat.le_refl _)
 have holdf:∀b∈fp,∃o,s2.heap.get? b=some o:=fun b hb=>let ⟨o,e,_⟩:=T.obj 0 _ st2 b hb;⟨o,e⟩
 refine wpAny_newObj_type (wpAny_newFunctionEnv hcell (by intro y hy;simp at hy) (fun h₁ hns₁ hsb₁=>?_) hkind)
 have hC:(s2.heap.push Q9).objs.size=s2.heap.objs.size+1:=Heap.size_push _ _
 have hns:h₁.Ns (s2.heap.objs.size+1) (fun x=>([]:List (Str×Value)).reverse.lookup x):=hC▸hns₁
 have hsb:Heap.SameBut (s2.heap.objs.size+1) ((s2.heap.push Q9).push {cls:=.type "dict", data:=.dict #[]}) h₁:=hC▸hsb₁
 have hold1:∀b o,s2.heap.get? b=some o->h₁.get? b=some o:=fun b o e=>by
  have hb:b<s2.heap.objs.size:=Heap.lt_size e
  exact(hsb.2 b (Nat.ne_of_lt (Nat.lt_succ_of_lt hb))).trans (Heap.get?_push_of_some _ (Heap.get?_push_of_some _ e))
 have hD:h₁.get? s2.heap.objs.size=some Q9:=(hsb.2 _ (Nat.ne_of_lt (Nat.lt_succ_self _))).trans (Heap.get?_push_of_some _ (Heap.get?_push_size _ rfl))
 have J0:=Al I2 f2 holdf hkind cap (tk:=s2.toks+([]:List (Str×Value)).length) hns hold1 hD
 have hg:=hg {s2 with heap:=s2.heap.push Q9} (upd H2 s2.heap.objs.size (.lst [])) (s2.heap.objs.size+1) fp
 have hcd:=hcd {s2 with heap:=s2.heap.push Q9} (upd H2 s2.heap.objs.size (.lst [])) (s2.heap.objs.size+1) fp
 have he:=he {s2 with heap:=s2.heap.push Q9} (upd H2 s2.heap.objs.size (.lst [])) (s2.heap.objs.size+1) fp
 generalize hXc:Ug X Nc scope cl {s2 with heap:=s2.heap.push Q9} (upd H2 s2.heap.objs.size (.lst [])) (s2.heap.objs.size+1) fp=Xc at J0 hg hcd he
 have eP:Xc.prog=X.prog:=by subst hXc;rfl
 have eW:Xc.w=X.w:=by subst hXc;rfl
 have eK:Xc.K=X.K:=by subst hXc;rfl
 have eA:Xc.A=X.A:=by subst hXc;rfl
 have eX:Xc.xe=fun _ _=>False:=by subst hXc;rfl
 have eE:Xc.env=compEnvC scope cl (s2.heap.objs.size+1) X.env:=by subst hXc;rfl
 have eC:Xc.calm=true:=by subst hXc;exact hc
 have fpc:∀{H':Hp},(∀b∈fp,H' b=none)->∀b∈fp,Pn Xc [] H' b:=fun {H'} hn b hb=>by
  subst hXc
  obtain⟨f0,f1,f2',f3,f4,f5⟩:=f2 b hb
  obtain⟨o,eo⟩:=holdf b hb
  refine⟨hn b hb,Nat.ne_of_lt (Nat.lt_succ_of_lt (Heap.lt_size eo)),fun hz=>?_,.inl hb,fun x c e=>f4 x c (cap.sub x c e),fun p hp=>absurd (show p∈([]:List (Addr×Obj)) from hp) (by simp)⟩
  rcases List.mem_cons.mp (I2.stkSub b hz) with e|hz
  ·exact f1 e
  ·exact f2' hz
 have nfp:∀b∈fp,b≠s2.heap.objs.size:=fun b hb=>by
  obtain⟨o,eo⟩:=holdf b hb
  exact Nat.ne_of_lt (Heap.lt_size eo)
 obtain⟨tg',pg,qg⟩:=hg
 obtain⟨tcn,pcn,qcn⟩:=hcd
 obtain⟨te,pe,qe⟩:=he
 have loop:∀s₃:Shared,s₃={s2 with heap:=h₁,toks:=s2.toks+([]:List (Str×Value)).length} ->
   codeAny (model X.prog X.w) X.A (.compLoop (.ListComp elt [⟨tg,iter,[cnd],0⟩] scope pos) 0 (.ref it) (.ref s2.heap.objs.size) (compEnvC scope cl (s2.heap.objs.size+1) X.env))
    (compPost (model X.prog X.w) X.A X.xe none (EP X pins σ Q) (.ref s2.heap.objs.size) (s2.heap.objs.size+1)) s₃:=by
  rintro s₃ rfl
  refine Px (fun n s'=>∃i vs es H' Hf' σ',n=ds.length-i/\i<=ds.length/\Inv Xc [] σ' H' s'/\tn i s'.heap/\(∀b∈fp,H' b=none) /\
   H' s2.heap.objs.size=some (.lst vs)/\Hf' s2.heap.objs.size=none/\Gr Hf2 H2 Hf' H'/\Reps X.K Hf' es vs/\vs.length<=i /\
   (U0 n0 caps sd).length=σ'.length/\(∀(j:Nat) (d:D),(U0 n0 caps sd)[j]?=some (some (.im d))->∃v,σ'[j]?=some (some v)/\Rep X.K Hf' d v) /\
   PoF X.K E Hf2 H2 ((Pw gt fc fe (U0 n0 caps sd) (ds.drop i)).bind fun fs=>.ok (es++fs)) Q) ?_ ds.length ?_
  ·rintro n s' ⟨i,vs,es,H',Hf',σ',rfl,hil,J1,st1,fr1,hd1,hf1,g1,rs1,hl1,hlen1,him1,hq1⟩
   have jj:=jok i Hf' H' g1.fz g1.sub
   cases q:ds[i]? with
   |none=>
    rw[q] at jj
    have tdone:=T.done Xc eP eW eK eC i [] s' _ H' (fun _ _=>False) J1 (fpc fr1) st1 jj
    rw[eA] at tdone
    refine wpAny_mono tdone (fun r s4 hr=>?_) fun _ _ z=>z
    obtain⟨rfl,J4⟩:=hr
    rw[List.drop_eq_nil_of_le (List.getElem?_eq_none_iff.mp q)] at hq1
    subst hXc
    obtain⟨m,hn4,_⟩:=J4.loc
    refine⟨m,hn4,fun h' sb=>?_⟩
    refine⟨.ref s2.heap.objs.size,H',Le I2 f2 J4 sb,rfl,?_⟩
    have hq2:PoF X.K E Hf2 H2 (.ok es) Q:=by
     have:es++([]:List D)=es:=List.append_nil es
     rw[<-this];exact hq1
    exact hq2 _ vs Hf' H' g1 fresh hf1 hd1 rs1
   |some d=>
    rw[q] at jj
    obtain⟨go,yl⟩:=jj
    have hlt:i<ds.length:=(List.getElem?_eq_some_iff.mp q).1
    have hdr:ds.drop i=d::ds.drop (i+1):=by
     rw[List.drop_eq_getElem_cons hlt]
     congr 1
     exact(List.getElem?_eq_some_iff.mp q).2
    obtain⟨sd1,eg,hq2⟩:∃sd1,gt d (U0 n0 caps sd)=.ok sd1/\((fc sd1=.ok true/\∃e1,fe sd1=.ok e1/\PoF X.K E Hf2 H2 ((Pw gt fc fe (U0 n0 caps sd) (ds.drop (i+1))).bind fun fs=>.ok ((es++[e1])++fs)) Q) \/
      (fc sd1=.ok false/\PoF X.K E Hf2 H2 ((Pw gt fc fe (U0 n0 caps sd) (ds.drop (i+1))).bind fun fs=>.ok (es++fs)) Q)):=by
     rw[hdr] at hq1
     unfold Pw at hq1
     split at hq1
     ·rename_i sd1 eg
      refine⟨sd1,eg,?_⟩
      split at hq1
      ·rename_i ec
       refine .inl ⟨ec,?_⟩
       split at hq1
       ·rename_i e1 ee
        refine⟨e1,ee,?_⟩
        cases em:Pw gt fc fe (U0 n0 caps sd) (ds.drop (i+1)) with
        |ok fs=>
         rw[em] at hq1
         have:(es++[e1])++fs=es++e1::fs:=by simp
         rw[M.bind_ok,this]
         exact hq1
        |ex x=>rw[em] at hq1;exact hq1.elim
        |bad=>rw[em] at hq1;exact hq1.elim
       ·exact hq1.elim
      ·rename_i ec
       exact .inr ⟨ec,hq1⟩
      ·exact hq1.elim
     ·exact hq1.elim
    have titem:=T.item Xc eP eW eK eC i [] s' _ H' (fun _ _=>False) J1 (fpc fr1) st1 go
    rw[eA] at titem
    refine wpAny_mono titem (fun r s4 hr=>?_) fun _ _ z=>z
    obtain⟨u,rfl,h4⟩:=hr
    refine wpAny_mono h4 (fun _ s5 h5=>?_) fun _ _ z=>z
    obtain⟨x,H5,J5,r5,y5,st5,fr5⟩:=h5
    obtain⟨Hf5,g5,rx⟩:=yl x H5 y5
    have J5':=J5.pinned (fpc fr5) (T.obj _ _ st5)
    have hD5:H5 s2.heap.objs.size=some (.lst vs):=g5.all _ _ hd1
    have hf5:Hf5 s2.heap.objs.size=none:=g5.ban _ (Lv.lst hd1) hf1
    have him5:∀(j:Nat) (d:D),(U0 n0 caps sd)[j]?=some (some (.im d))->∃v,σ'[j]?=some (some v)/\Rep X.K Hf5 d v:=fun j d z=>let ⟨v,z1,z2⟩:=him1 j d z;⟨v,z1,z2.mono g5.fz⟩
    have sr5:SR Xc.K H5 (fun a=>Lv H5 a/\Hf5 a=none) Hf5 (U0 n0 caps sd) σ' H5:=eK▸SR.ofIm g5.sub hlen1 him5 Za2
    obtain⟨kl,kk,kn⟩:=hk d _ sd1 eg
    rcases hq2 with⟨ec,e1,ee,hq2⟩|⟨ec,hq2⟩
    ·have hg2:=pg _ s5 σ' H5 x u (fun σ6 H6=>tcn σ6 H6 fun bb H6'=>bb=true/\te σ6 H6' fun v7 H7=>∃Hf7,Gr Hf5 H5 Hf7 H7/\Rep X.K Hf7 e1 v7/\(U0 n0 caps sd).length=σ6.length/\(∀(j:Nat) (d:D),(U0 n0 caps sd)[j]?=some (some (.im d))->∃v,σ6[j]?=some (some v)/\Rep X.K Hf7 d v)) J5' r5
      (qg H5 _ Hf5 _ σ' H5 x d sd1 _ sr5 (eK▸rx) eg fun σ6 sr6=>qcn H5 _ Hf5 sd1 σ6 H5 _ sr6 (by
       rw[ec]
       rintro bb Hf6 H6' g6 rfl
       refine⟨rfl,qe H5 _ Hf6 sd1 σ6 H6' _ (sr6.gr g6) ?_⟩
       rw[ee]
       intro v7 Hf7 H7 g7 r7
       have r7:Rep Xc.K Hf7 e1 v7:=r7
       rw[eK] at r7
       refine⟨Hf7,g6.trans g7,r7,by rw[<-kl];exact sr6.len,fun j d z=>?_⟩
       have z2:sd1[j]?=some (some (.im d)):=by rw[kk j (Mr z)];exact z
       obtain⟨v,z3,z4⟩:=sr6.im j d z2
       rw[eK] at z4
       exact⟨v,z3,z4.mono (g6.fz.trans g7.fz)⟩))
     rw[eP,eW,eA,eX,eE] at hg2
     refine wpAny_mono hg2 (fun _ s6 h6=>?_) fun _ _ z=>z
     obtain⟨σ6,H6,J6,q6⟩:=h6
     have hc2:=pcn _ s6 σ6 H6 _ J6 q6
     rw[eP,eW,eA,eX,eE] at hc2
     refine wpAny_mono hc2 (fun bb s6' h6=>?_) fun _ _ z=>z
     obtain⟨H6',J6',rfl,q6'⟩:=h6
     rw[if_pos rfl]
     have he2:=pe _ s6' σ6 H6' _ J6' q6'
     rw[eP,eW,eA,eX,eE] at he2
     refine wpAny_mono he2 (fun y s7 h7=>?_) fun _ _ z=>z
     obtain⟨v7,H7,J7,r7,Hf7,g7,rv7,hl7,him7⟩:=h7
     have hD7:H7 s2.heap.objs.size=some (.lst vs):=g7.all _ _ hD5
     have hf7:Hf7 s2.heap.objs.size=none:=g7.ban _ (Lv.lst hD5) hf5
     have happ:=Wr (X:=Xc) _ s7 σ6 H7 (.ref s2.heap.objs.size) [v7] (.ref s2.heap.objs.size) [y] (fun _ H8=>H8=upd H7 s2.heap.objs.size (.lst (vs++[v7]))) J7 rfl (.cons r7 .nil)
      ⟨_,vs,v7,rfl,rfl,hD7,by
       have h1:=of_decide_eq_true hfew
       have h2:=sizeLine_eq
       lia,rfl⟩
     rw[eP,eW,eA,eX] at happ
     refine wpAny_mono happ (fun _ s8 h8=>?_) fun _ _ z=>z
     obtain⟨_,H8,J8,_,e8⟩:=h8
     subst e8
     have g17:=(g1.trans g5).trans g7
     refine⟨ds.length-(i+1),by lia,i+1,vs++[v7],es++[e1],_,Hf7,σ6,rfl,hlt,J8.unpinned,?_,fun b hb=>?_,Zu,hf7,⟨g17.fz,fun b o z=>?_,fun b o z=>?_,g17.ban⟩,?_,by rw[List.length_append,List.length_singleton];lia,hl7,him7,hq2⟩
     ·exact T.keep _ _ _ st5 fun b hb o e=>(J8.pin (b,o) (List.mem_append_right _ (List.mem_append_right _ (Xp hb e)))).1
     ·obtain⟨o,e,_⟩:=T.obj _ _ st5 b hb
      exact(J8.pin (b,o) (List.mem_append_right _ (List.mem_append_right _ (Xp hb e)))).2.1
     ·have:b≠s2.heap.objs.size:=Z3 z hf7
      rw[Zn this];exact g17.sub b o z
     ·have:b≠s2.heap.objs.size:=Z3 z fresh
      rw[Zn this];exact g17.all b o z
     ·exact(rs1.mono (g5.fz.trans g7.fz)).append (Reps.cons rv7 Reps.nil)
    ·have hg2:=pg _ s5 σ' H5 x u (fun σ6 H6=>tcn σ6 H6 fun bb H7=>bb=false/\∃Hf7,Gr Hf5 H5 Hf7 H7/\(U0 n0 caps sd).length=σ6.length/\(∀(j:Nat) (d:D),(U0 n0 caps sd)[j]?=some (some (.im d))->∃v,σ6[j]?=some (some v)/\Rep X.K Hf7 d v)) J5' r5
      (qg H5 _ Hf5 _ σ' H5 x d sd1 _ sr5 (eK▸rx) eg fun σ6 sr6=>qcn H5 _ Hf5 sd1 σ6 H5 _ sr6 (by
       rw[ec]
       rintro bb Hf6 H6' g6 rfl
       refine⟨rfl,Hf6,g6,by rw[<-kl];exact sr6.len,fun j d z=>?_⟩
       have z2:sd1[j]?=some (some (.im d)):=by rw[kk j (Mr z)];exact z
       obtain⟨v,z3,z4⟩:=sr6.im j d z2
       rw[eK] at z4
       exact⟨v,z3,z4.mono g6.fz⟩))
     rw[eP,eW,eA,eX,eE] at hg2
     refine wpAny_mono hg2 (fun _ s6 h6=>?_) fun _ _ z=>z
     obtain⟨σ6,H6,J6,q6⟩:=h6
     have hc2:=pcn _ s6 σ6 H6 _ J6 q6
     rw[eP,eW,eA,eX,eE] at hc2
     refine wpAny_mono hc2 (fun bb s8 h6=>?_) fun _ _ z=>z
     obtain⟨H8,J8,rfl,Hf7,g7,hl7,him7⟩:=h6
     rw[if_neg (by decide)]
     have hD7:H8 s2.heap.objs.size=some (.lst vs):=g7.all _ _ hD5
     have hf7:Hf7 s2.heap.objs.size=none:=g7.ban _ (Lv.lst hD5) hf5
     have g17:=(g1.trans g5).trans g7
     refine⟨ds.length-(i+1),by lia,i+1,vs,es,_,Hf7,σ6,rfl,hlt,J8.unpinned,?_,fun b hb=>?_,hD7,hf7,g17,rs1.mono (g5.fz.trans g7.fz),by lia,hl7,him7,hq2⟩
     ·exact T.keep _ _ _ st5 fun b hb o e=>(J8.pin (b,o) (List.mem_append_right _ (List.mem_append_right _ (Xp hb e)))).1
     ·obtain⟨o,e,_⟩:=T.obj _ _ st5 b hb
      exact(J8.pin (b,o) (List.mem_append_right _ (List.mem_append_right _ (Xp hb e)))).2.1
  ·refine⟨0,[],[],_,Hf2,_,by simp,Nat.zero_le _,J0,T.keep 0 _ _ st2 fun b hb o e=>hold1 b o e,fun b hb=>?_,Zu,g2.sub.free fresh,⟨Same.refl _,fun b o z=>?_,Qs fresh _,fun _ _ z=>z⟩,Reps.nil,Nat.le_refl _,?_,fun j d z=>?_,?_⟩
   ·rw[Zn (nfp b hb)];exact(f2 b hb).1
   ·have:b≠s2.heap.objs.size:=Z3 (g2.sub b o z) fresh
    rw[Zn this];exact g2.sub b o z
   ·unfold U0;simp only[List.length_append,List.length_replicate,List.length_map]
   ·obtain⟨k,j',d',rfl,ej,es,ed⟩:=Dp z
    cases ed
    obtain⟨v,z1,z2⟩:=sr2.im j' d es
    refine⟨v,?_,z2⟩
    rw[List.getElem?_append_right (by simp),List.length_replicate,Nat.add_sub_cancel_left,List.getElem?_map,ej]
    simp[z1]
   ·have:∀r:M (List D),(r.bind fun fs=>.ok ([]++fs))=r:=fun r=>by cases r<;>simp
    rw[List.drop_zero,this]
    exact hq
 show codeAny (model X.prog X.w) X.A (.compStart (.ListComp elt [⟨tg,iter,[cnd],0⟩] scope pos) 0 (.ref it) (.ref s2.heap.objs.size) (compEnvC scope cl (s2.heap.push Q9).objs.size X.env))
  (compPost (model X.prog X.w) X.A X.xe none (EP X pins σ Q) (.ref s2.heap.objs.size) (s2.heap.push Q9).objs.size) {s2 with heap:=h₁,toks:=s2.toks+([]:List (Str×Value)).length}
 rw[hC]
 exact codeAny_compStart_list (loop _ rfl) (T.self X.A 0 _ _ _ (T.keep 0 _ _ st2 fun b hb o e=>hold1 b o e) (loop _ rfl))
theorem Sb {α β:Type}{F:α->β->Prop}:∀{l:List α}{m:List β},Paired F l m->∀{i:Nat}{a:α},l[i]?=some a->∃b,m[i]?=some b/\F a b
 |_,_,.nil,i,a,e=>by simp at e
 |_,_,.cons h t,0,a,e=>by simp at e;subst e;exact⟨_,rfl,h⟩
 |_,_,.cons h t,i+1,a,e=>by
  obtain⟨b,e1,e2⟩:=Sb t (i:=i) (by simpa using e)
  exact⟨b,by simpa using e1,e2⟩
section
variable {X:Cx}{E:XK}{pos p1 p2 pos':Pos}{key value:Expr}{x:Str}
def Zl7 {σ:L2.St}{i:Nat}{v:Option V}(hi:i≠0):(σ.set i v)[0]?=σ[0]?:=List.getElem?_set_ne hi
end
def Ge (H:Hp)(a:Addr):Hp:=fun b=>if b=a then none else H b
def K2 (H:Hp)(a:Addr):Same (Ge H a) H:=fun b u q=>by
 unfold Ge at q
 split at q
 ·cases q
 ·exact q
def K3 (H:Hp)(a:Addr):Ge H a a=none:=if_pos rfl
def Js {H:Hp}{a b:Addr}(h:b≠a):Ge H a b=H b:=if_neg h
structure GrM (a:Addr) (Hf H Hf' H':Hp):Prop where
 fz:Same Hf Hf'
 sub:Same Hf' H'
 all:∀b u,b≠a->H b=some u->H' b=some u
 ban:∀b,Lv H b->Hf b=none->Hf' b=none
def Zi8 (K:PySem.W.Frag)(Hf:Hp):List S->List V->Prop:=Paired fun s v=>s.own=false/\RepS K Hf s v
def Zkh (K:PySem.W.Frag)(Hf _H:Hp)(ss:List S)(vs:List V):Prop:=Zi8 K Hf ss vs
def Zh7 (X:Cx)(E:XK)(es:List Expr)(f:Zi->M (List S)):Prop:=
 ∃t:TA,PA X es t/\∀(H0:Hp) (B:Addr->Prop) (Hf:Hp) (sd:Zi) (σ:L2.St) (H:Hp) (Q:List V->Hp->Prop),SR X.K H0 B Hf sd σ H->Po X.K E (Zkh X.K) Hf H (f sd) Q->t σ H Q
def W7:S->Bool
 |.ob _ _ _=>true
 |.fl _ _ _=>true
 |_=>false
def J9 {s:S}(h:W7 s=true):s.own=false:=by
 cases s<;>first|rfl|cases h
def Aw (_:Zi):M (List S):=.ok []
def Wa (i:Nat)(fr:Zi->M (List S))(sd:Zi):M (List S):=match sd[i]? with
 |some (some s)=>if W7 s then(fr sd).bind fun ss=>.ok (s::ss) else .bad
 |_=>.bad
def Ax (fa:Zi->M D)(fr:Zi->M (List S))(sd:Zi):M (List S):=(fa sd).bind fun d=>(fr sd).bind fun ss=>.ok (.im d::ss)
section
variable {X:Cx}{E:XK}{pos p p1 p2 apos:Pos}{a:Expr}{es:List Expr}{x:Str}
def Mw:Zh7 X E [] Aw:=⟨_,X7,fun _ _ _ _ _ _ _ sr h=>Po.ret (R:=Zkh X.K) sr.sub h .nil⟩
def Mx {fa:Zi->M D}{fr:Zi->M (List S)}(ha:Xo X E a fa)(hr:Zh7 X E es fr)(hs:starEach (a::es) X.env=(false,eval a X.env)::starEach es X.env:=by rfl):Zh7 X E (a::es) (Ax fa fr):=by
 obtain⟨ta,pa,qa⟩:=ha
 obtain⟨tr,pr,qr⟩:=hr
 refine⟨_,Qo pa pr hs,fun H0 B Hf sd σ H Q sr h=>?_⟩
 refine qa H0 B Hf sd σ H _ sr (Po.bind h fun d v Hf1 H1 _ g1 rv h1=>?_)
 refine qr H0 B Hf1 sd σ H1 _ (sr.gr g1) (Po.bind h1 fun ds vs Hf2 H2 _ g2 rs h2=>?_)
 exact Po.ret (R:=Zkh X.K) g2.sub h2 (.cons ⟨rfl,Rep.mono g2.fz rv⟩ rs)
def Vh (i:Nat){fr:Zi->M (List S)}(hr:Zh7 X E es fr)(hN:X.N[i]?=some x:=by rfl)(hv:Tg X.env.scope x:=by trivial) (hd:(x==("__debug__":Str))=false:=by decide)
  (hcd:(x==("__classdict__":Str))=false:=by decide) (hs:starEach (.Name x p::es) X.env=(false,eval (.Name x p) X.env)::starEach es X.env:=by rfl):Zh7 X E (.Name x p::es) (Wa i fr):=by
 obtain⟨tr,pr,qr⟩:=hr
 refine⟨_,Qo (Qc hN hv hd hcd) pr hs,fun H0 B Hf sd σ H Q sr h=>?_⟩
 unfold Wa at h
 split at h
 ·rename_i s ei
  split at h
  ·rename_i ho
   obtain⟨v,e1,e2⟩:=sr.imS i s ei (J9 ho)
   refine⟨v,e1,qr H0 B Hf sd σ H _ sr (Po.bind h fun ss vs Hf1 H1 _ g1 rs h1=>?_)⟩
   exact Po.ret (R:=Zkh X.K) g1.sub h1 (.cons ⟨J9 ho,e2.mono g1.fz⟩ rs)
  ·exact h.elim
 ·exact h.elim
end
def Pk (K:PySem.W.Frag)(F:List S->M S):Sp:=fun vs H Q _=>∃Hf ss s,Same Hf H/\Zi8 K Hf ss vs/\F ss=.ok s/\∀v Hf' H',Gr Hf H Hf' H'->RS K H Hf' H' s v->Q v H'
def Fh (n m:Nat)(f:Zi->M O)(ss:List S):M S:=if ss.length=n then Nr (f (ss.map some++List.replicate m none)) else .bad
def Wu {K:PySem.W.Frag}{N:List Str}{Hf H:Hp}{ss:List S}{vs:List V}{m:Nat}(e:Same Hf H)(r:Zi8 K Hf ss vs)(hN:N.length=ss.length+m):
  SR K H (fun a=>Lv H a/\Hf a=none) Hf (ss.map some++List.replicate m none) (L2.X6 N vs) H:=by
 have hlen:=Paired.length r
 have es:L2.X6 N vs=vs.map some++List.replicate m none:=by
  unfold L2.X6
  rw[show N.length-vs.length=m by lia]
 rw[es]
 refine SR.ofS e (by simp[hlen]) fun i t h=>?_
 by_cases hl:i<ss.length
 ·rw[List.getElem?_append_left (by simpa using hl),List.getElem?_map] at h
  cases q:ss[i]? with
  |none=>rw[q] at h;cases h
  |some s=>
   rw[q] at h
   cases h
   obtain⟨v,e1,e2,e3⟩:=Sb r q
   have:i<vs.length:=(List.getElem?_eq_some_iff.mp e1).1
   exact⟨e2,v,by rw[List.getElem?_append_left (by simpa using this),List.getElem?_map,e1];rfl,e3⟩
 ·rw[List.getElem?_append_right (by simpa using hl),List.getElem?_replicate] at h
  split at h<;>cases h
def Dx {P:Program}{w:World}{K:PySem.W.Frag}{mg:Str->Option Value}{base:Heap}{x qual:Str}{st:Stmt}{f:Addr}{fd:FuncData}{N ps:List Str}{k m n:Nat}{fb:Zi->M O}(F:Fun K x qual st f fd)(sc:FnScope N ps (Zj st))(hn:ps.length=n)(hN:N.length=n+m)(hbody:∀(cdv:Value) (A:Around) (outer:List Env) (s:Shared) (H:Hp) (E:XK),Room k (A.deeper (envOfC qual (Zj st) s.heap.objs.size f cdv)) ->
   Nl (Kh Y2 P w K mg base N qual (Zj st) f cdv A outer s H E).nox E0 (Xj st) fb):FnOk P w K mg base Y2 (k+1) f fd ps (Pk K (Fh n m fb)):=by
 refine F.ok sc (fun vs H Q E h=>?_) (fun cdv A outer s H vs Q E hr h=>?_)
 ·obtain⟨Hf,ss,s,e,r,hF,_⟩:=h
  unfold Fh at hF
  split at hF
  ·rename_i hl
   rw[<-Paired.length r,hl,hn]
  ·cases hF
 ·obtain⟨Hf,ss,s',e,r,hF,q⟩:=h
  obtain⟨t,p,qt⟩:=hbody cdv A outer s H E hr
  unfold Fh at hF
  split at hF
  ·rename_i hl
   refine⟨t,p,qt H _ Hf _ (L2.X6 N vs) H _ (Wu (N:=N) (m:=m) e r (by lia)) ?_⟩
   generalize fb (ss.map some++List.replicate m none)=ro at hF
   have back:∀{v:V}{Hf' H':Hp}{s:DL.S},Same Hf Hf'->Fin' H (fun a=>Lv H a/\Hf a=none) Hf' H'->RS K H Hf' H' s v->s=s'->Q v H':=fun {v Hf' H' s} e1 e2 e3 e4=>by
    subst e4
    exact q v Hf' H' ⟨e1,e2.sub,e2.all,fun a h1 h2=>e2.ban a ⟨h1,h2⟩⟩ e3
   cases ro with
   |ok o=>
    cases o with
    |rt s2=>
     have e':s2=s':=by cases hF;rfl
     exact fun v Hf' H' e1 e2 e3=>back e1 e2 e3 e'
    |nx sd'=>
     have e':DL.S.im .non=s':=by cases hF;rfl
     exact fun σ' Hf' H' e1 sr'=>back (v:=.non) (s:=DL.S.im .non) e1 sr'.fin (show Rep K Hf' .non .non from rep_non.mpr rfl) e'
    |bk sd'=>cases hF
    |ct sd'=>cases hF
   |ex x=>cases hF
   |bad=>cases hF
  ·cases hF
def Gw:M S->M D
 |.ok (.im d)=>.ok d
 |_=>.bad
def Sc (F:List S->M S)(fs:Zi->M (List S))(sd:Zi):M D:=(fs sd).bind fun ss=>Gw (F ss)
def My {K:PySem.W.Frag}{E:XK}{Hf1 H1:Hp}{F:List S->M S}{ss:List S}{vs:List V}{Q:VK}(e:Same Hf1 H1)(rs:Zi8 K Hf1 ss vs)(h:Po K E (rV K) Hf1 H1 (Gw (F ss)) Q){E':XK}:Pk K F vs H1 Q E':=by
 cases q:F ss with
 |ok s=>
  rw[q] at h
  cases s with
  |im d=>exact⟨Hf1,ss,.im d,e,rs,q,fun v Hf' H' g rv=>h v Hf' H' g rv⟩
  |ow ds=>exact h.elim
  |od kvs=>exact h.elim
  |dk kvs=>exact h.elim
  |xc x=>exact h.elim
  |fn x=>exact h.elim
  |ob a c r=>exact h.elim
  |fl a g q=>exact h.elim
 |ex x=>rw[q] at h;exact h.elim
 |bad=>rw[q] at h;exact h.elim
section
variable {X:Cx}{E:XK}{pos p p1 p2 apos:Pos}{a:Expr}{es:List Expr}{x vn m:Str}{k:Nat}{f:Addr}{fd:FuncData}{ps:List Str}{F:List S->M S}
def Ay {fs:Zi->M (List S)}(G:FnOk X.prog X.w X.K X.mg X.base Y2 k f fd ps (Pk X.K F))(hr:Room k X.A)(hm:X.mg x=some (.ref f))(hk:PySem.W.keepIn X.K (.ref f)=true)(hb:Binds X.K fd ps [])(ha:Zh7 X E (a::es) fs)(hg:Gl X x:=by rfl) (hdb:(x==("__debug__":Str))=false:=by decide) (he:starEach (a::es) X.env=(false,eval a X.env)::starEach es X.env:=by rfl) (hpl:(backTo pos (starEach es X.env)).any (·.1)=false:=by rfl):
  Xo X E (.Call (.Name x p) (a::es) [] pos) (Sc F fs):=by
 obtain⟨t,pt,qt⟩:=ha
 refine⟨_,Ua (dvs:=[]) (E:=E0) G hr hg hm hk hb .nil Kx pt hdb he hpl,fun H0 B Hf sd σ H Q sr h=>?_⟩
 refine qt H0 B Hf sd σ H _ sr (Po.bind h fun ss vs Hf1 H1 _ g1 rs h1=>?_)
 show Pk X.K F (vs++[]) H1 Q _
 rw[List.append_nil]
 exact My g1.sub rs h1
structure ObC (K:PySem.W.Frag) (c:Str) (C:Addr):Prop where
 at_:PySem.W.nsIn K mainGlobals c=some (some (.ref C))
 cls:Cls K C
def Gx {K:PySem.W.Frag}{H:Hp}{r:List (Str×D)}{gs:List (Str×V)}(h:RepKV K H r gs)(n:Str):match r.lookup n with
  |some d=>∃v,gs.lookup n=some v/\Rep K H d v
  |none=>gs.lookup n=none:=by
 induction h with
 |nil=>rfl
 | @cons p q l l' hp ht ih=>
  obtain⟨p1,p2⟩:=p
  obtain⟨q1,q2⟩:=q
  obtain⟨e,rp⟩:=hp
  have e:p1=q1:=e
  subst e
  rw[List.lookup_cons,List.lookup_cons]
  cases n==p1 with
  |true=>exact⟨q2,rfl,rp⟩
  |false=>exact ih
def Yd (i:Nat)(c n:Str)(sd:Zi):M D:=match sd[i]? with
 |some (some (.ob _ c' r))=>if c'=c then(match r.lookup n with|some d=>.ok d|none=>.bad) else .bad
 |_=>.bad
def Qy (i:Nat){c n:Str}{C:Addr}(oc:ObC X.K c C)(na:NoAttr X.K C n)(hN:X.N[i]?=some vn:=by rfl)(hv:Tg X.env.scope vn:=by trivial) (hd:(vn==("__debug__":Str))=false:=by decide)
  (hcd:(vn==("__classdict__":Str))=false:=by decide) (hb:attributeBase (.Name vn p) n X.env (eval (.Name vn p) X.env)=eval (.Name vn p) X.env:=by rfl):Xo X E (.Attribute (.Name vn p) n pos) (Yd i c n):=by
 refine⟨_,U6 (Qc hN hv hd hcd) hb,fun H0 B Hf sd σ H Q sr h=>?_⟩
 unfold Yd at h
 split at h
 ·rename_i a c' r ei
  split at h
  ·rename_i ec
   subst ec
   obtain⟨v,e1,C',dx,gs,rfl,e2,e3,e4⟩:=sr.imS i _ ei rfl
   rw[oc.at_] at e2
   cases e2
   have kl:=Gx e4 n
   split at h
   ·rename_i d el
    rw[el] at kl
    obtain⟨v,l,rv⟩:=kl
    exact⟨.ref a,e1,a,C,dx,gs,v,rfl,sr.sub _ _ e3,oc.cls,na,l,Po.ret (R:=rV X.K) sr.sub h rv⟩
   ·exact h.elim
  ·exact h.elim
 ·exact h.elim
def Xr (i:Nat)(c n:Str)(F:List S->M S)(fs:Zi->M (List D))(sd:Zi):M D:=match sd[i]? with
 |some (some (.ob a c' r))=>if c'=c/\r.lookup n=none then(fs sd).bind fun ds=>Gw (F (.ob a c' r::ds.map S.im)) else .bad
 |_=>.bad
theorem Mz {K:PySem.W.Frag}{H:Hp}:∀{ds:List D}{vs:List V},Reps K H ds vs->Zi8 K H (ds.map S.im) vs
 |[],_,r=>by rw[reps_nil.mp r];exact .nil
 |d::ds,_,r=>by
  obtain⟨x,t,rfl,h,q⟩:=reps_cons.mp r
  exact .cons ⟨rfl,h⟩ (Mz q)
def Ll {c n:Str}{C:Addr}{t:TA}{fs:Zi->M (List D)}{i:Nat}(oc:ObC X.K c C)(qt:∀(H0:Hp) (B:Addr->Prop) (Hf:Hp) (sd:Zi) (σ:L2.St) (H:Hp) (Q:List V->Hp->Prop),SR X.K H0 B Hf sd σ H->Po X.K E (rA X.K) Hf H (fs sd) Q->t σ H Q){H0:Hp}{B:Addr->Prop}{Hf:Hp}{sd:Zi}{σ:L2.St}{H:Hp}{Q:VK}{E':XK}(sr:SR X.K H0 B Hf sd σ H)(h:Po X.K E (rV X.K) Hf H (Xr i c n F fs sd) Q):Zaj C n (Pk X.K F) [] E' (O7 i) t σ H Q:=by
 unfold Xr at h
 split at h
 ·rename_i a c' r ei
  split at h
  ·rename_i ec
   obtain⟨ec,el⟩:=ec
   subst ec
   obtain⟨v,e1,C',dx,gs,rfl,e2,e3,e4⟩:=sr.imS i _ ei rfl
   rw[oc.at_] at e2
   cases e2
   have kl:=Gx e4 n
   rw[el] at kl
   refine⟨.ref a,e1,a,dx,gs,rfl,sr.sub _ _ e3,kl,qt H0 B Hf sd σ H _ sr (Po.bind h fun ds vs Hf1 H1 _ g1 rs h1=>?_)⟩
   rw[List.append_nil]
   have ro:RepS X.K Hf1 (.ob a c' r) (.ref a):=RepO.mono g1.fz ⟨C,dx,gs,rfl,oc.at_,e3,e4⟩
   exact My g1.sub (.cons ⟨rfl,ro⟩ (Mz rs)) h1
  ·exact h.elim
 ·exact h.elim
def Wb (i:Nat){c:Str}{C:Addr}{fs:Zi->M (List D)}{pl:Sem Bool}(oc:ObC X.K c C)(hm:Meth X.K C m f)(G:FnOk X.prog X.w X.K X.mg X.base Y2 k f fd ps (Pk X.K F))(hr:Room k X.A)(hb:Binds X.K fd ps [])(ha:Bz X E (a::es) fs)(hN:X.N[i]?=some vn:=by rfl)(hv:Tg X.env.scope vn:=by trivial) (hd:(vn==("__debug__":Str))=false:=by decide) (hcd:(vn==("__classdict__":Str))=false:=by decide)
  (hst:starEach (a::es) X.env=(false,eval a X.env)::starEach es X.env:=by rfl) (hpl:(backTo pos (starEach es X.env)).any (·.1)=false:=by rfl)
  (ht:eval (.Call (.Attribute (.Name vn p) m apos) (a::es) [] pos) X.env=(do
   let ov <-eval (.Name vn p) X.env
   standAt apos.atName
   let (f,first) <-holding [ov] (getMethod ov m pl)
   callWith pos f first (backTo pos (starEach (a::es) X.env)) (backToKw pos (keywordEach [] X.env))):=by rfl):Xo X E (.Call (.Attribute (.Name vn p) m apos) (a::es) [] pos) (Xr i c m F fs):=by
 obtain⟨t,pt,qt⟩:=ha
 exact⟨_,Me (dvs:=[]) (E:=E0) (pl:=pl) (Qc hN hv hd hcd) oc.cls hm G hr hb .nil Kx pt hst hpl ht,fun H0 B Hf sd σ H Q sr h=>Ll oc qt sr h⟩
def Kt (i:Nat){c:Str}{C:Addr}{pl:Sem Bool}(oc:ObC X.K c C)(hm:Meth X.K C m f)(G:FnOk X.prog X.w X.K X.mg X.base Y2 k f fd ps (Pk X.K F))(hr:Room k X.A)(hb:Binds X.K fd ps [])(hN:X.N[i]?=some vn:=by rfl)(hv:Tg X.env.scope vn:=by trivial) (hd:(vn==("__debug__":Str))=false:=by decide) (hcd:(vn==("__classdict__":Str))=false:=by decide)
  (ht:eval (.Call (.Attribute (.Name vn p) m apos) [] [] pos) X.env=(do
   let ov <-eval (.Name vn p) X.env
   standAt apos.atName
   let (f,first) <-holding [ov] (getMethod ov m pl)
   callWith pos f first (backTo pos (starEach [] X.env)) (backToKw pos (keywordEach [] X.env))):=by rfl):Xo X E (.Call (.Attribute (.Name vn p) m apos) [] [] pos) (Xr i c m F Zh):=
 ⟨_,B8 (dvs:=[]) (E:=E0) (pl:=pl) (Qc hN hv hd hcd) oc.cls hm G hr hb .nil Kx ht,fun H0 B Hf sd σ H Q sr h=>Ll oc (fun _ _ _ _ _ _ _ sr h=>Po.ret sr.sub h Reps.nil) sr h⟩
end
def Vi (it ip:Nat)(f:Zi->M O):List (S×D)->Zi->M O
 |[],sd=>.ok (.nx sd)
 |od::r,sd=>(f ((sd.set it (some od.1)).set ip (some (.im od.2)))).bind fun x=>match x with
  |.nx sd2=>Vi it ip f r sd2
  |.ct sd2=>Vi it ip f r sd2
  |.bk sd2=>.ok (.nx sd2)
  |.rt s=>.ok (.rt s)
def Gy (it ip i1 i2:Nat)(f1 f2:Zi->M D)(f:Zi->M O)(sd:Zi):M O:=match sd[i1]?,sd[i2]? with
 |some (some o1),some (some o2)=>if W7 o1&&W7 o2 then(f1 sd).bind fun d1=>(f2 sd).bind fun d2=>Vi it ip f [(o1,d1),(o2,d2)] sd else .bad
 |_,_=>.bad
def PrV (K:PySem.W.Frag)(Hf:Hp)(od:S×D)(v:V):Prop:=∃p a b,v=.ref p/\Hf p=some (.tup [a,b])/\od.1.own=false/\RepS K Hf od.1 a/\Rep K Hf od.2 b
theorem PrV.mono {K:PySem.W.Frag}{H H':Hp}(e:Same H H'){od:S×D}{v:V}(h:PrV K H od v):PrV K H' od v:=by
 obtain⟨p,a,b,e1,e2,e3,e4,e5⟩:=h
 exact⟨p,a,b,e1,e _ _ e2,e3,e4.mono e,e5.mono e⟩
section
variable {X:Cx}{E:XK}{pos q0 q1 q2 pt pp p1 p2 pg:Pos}{x1 x2 xt xp:Str}{e1 e2:Expr}{k0 k1 k2 kt:Nat}
def Zbk (it ip i1 i2:Nat){body:List Stmt}{f1 f2:Zi->M D}{f:Zi->M O}(hp:PassesOwn (model X.prog X.w) X.A X.env X.xe)(hc:X.calm=true)(hN:X.N.Nodup)(h1:Xo X E e1 f1)(h2:Xo X E e2 f2)(hb:Nl X E body f)(n1:X.N[i1]?=some x1:=by rfl)(n2:X.N[i2]?=some x2:=by rfl)(nt:X.N[it]?=some xt:=by rfl)(np:X.N[ip]?=some xp:=by rfl)(v1:Tg X.env.scope x1:=by trivial)(v2:Tg X.env.scope x2:=by trivial)(lt:Zde X.env.scope xt:=by trivial)(lp:Zde X.env.scope xp:=by trivial)(ft:X.fn xt=true\/X.env.scope.names.lookup xt=some .local:=by first|exact .inl rfl|exact .inr rfl)(fp:X.fn xp=true\/X.env.scope.names.lookup xp=some .local:=by first|exact .inl rfl|exact .inr rfl)
  (d1:(x1==("__debug__":Str))=false:=by decide) (c1:(x1==("__classdict__":Str))=false:=by decide) (d2:(x2==("__debug__":Str))=false:=by decide) (c2:(x2==("__classdict__":Str))=false:=by decide)
  (s1:starEach [.Name x1 p1,e1] X.env=(false,eval (.Name x1 p1) X.env)::starEach [e1] X.env:=by rfl) (s1':starEach [e1] X.env=(false,eval e1 X.env)::starEach [] X.env:=by rfl)
  (s2:starEach [.Name x2 p2,e2] X.env=(false,eval (.Name x2 p2) X.env)::starEach [e2] X.env:=by rfl) (s2':starEach [e2] X.env=(false,eval e2 X.env)::starEach [] X.env:=by rfl)
  (s3:starEach [.Tuple [.Name x1 p1,e1] k1 q1,.Tuple [.Name x2 p2,e2] k2 q2] X.env=(false,eval (.Tuple [.Name x1 p1,e1] k1 q1) X.env)::starEach [.Tuple [.Name x2 p2,e2] k2 q2] X.env:=by rfl)
  (s4:starEach [.Tuple [.Name x2 p2,e2] k2 q2] X.env=(false,eval (.Tuple [.Name x2 p2,e2] k2 q2) X.env)::starEach [] X.env:=by rfl)
  (g1:(assignEach [.Name xt pt,.Name xp pp] X.env).map (·.2)=assign (.Name xt pt) X.env::(assignEach [.Name xp pp] X.env).map (·.2):=by rfl) (g2:(assignEach [.Name xp pp] X.env).map (·.2)=assign (.Name xp pp) X.env::(assignEach [] X.env).map (·.2):=by rfl)
  (gn:(assignEach [.Name xt pt,.Name xp pp] X.env).length=2:=by rfl) (gs:(assignEach [.Name xt pt,.Name xp pp] X.env).findIdx? (·.1)=none:=by rfl)
  (hs:∀x,foldedSetIterable (.Tuple [.Tuple [.Name x1 p1,e1] k1 q1,.Tuple [.Name x2 p2,e2] k2 q2] k0 q0) X.env x=pure x:=by intro _;rfl):
  Tf X E (.For (.Tuple [.Name xt pt,.Name xp pp] kt pg) (.Tuple [.Tuple [.Name x1 p1,e1] k1 q1,.Tuple [.Name x2 p2,e2] k2 q2] k0 q0) body [] pos) (Gy it ip i1 i2 f1 f2 f):=by
 obtain⟨t1,pe1,qe1⟩:=h1
 obtain⟨t2,pe2,qe2⟩:=h2
 obtain⟨tb,pb,qb⟩:=hb
 refine⟨_,Db hp hc (Zg5 (Md (Qo (Md (Qo (Qc n1 v1 d1 c1) (Qo pe1 X7 s1') s1)) (Qo (Md (Qo (Qc n2 v2 d2 c2) (Qo pe2 X7 s2') s2)) X7 s4) s3))) (Zay hc (Rf (P5 hN nt lt ft) (Rf (P5 hN np lp fp) Em g2) g1) gn gs) pb hs,fun H0 B Hf sd σ H D sr h=>?_⟩
 unfold Gy at h
 split at h
 ·rename_i o1 o2 eo1 eo2
  split at h
  ·rename_i ho
   rw[Bool.and_eq_true] at ho
   obtain⟨w1,a1,a2⟩:=sr.imS i1 o1 eo1 (J9 ho.1)
   refine⟨w1,a1,qe1 H0 B Hf sd σ H _ sr (PoS.bind sr h fun y1 u1 Hf1 H1 _ g1 sr1 r1 h1=>?_)⟩
   refine⟨by rw[sizeLine_eq];simp,fun a hl=>?_⟩
   have G1:=Gr.alloc g1.sub hl (.tup [w1,u1])
   have sr2:=sr1.gr G1
   obtain⟨w2,b1,b2⟩:=sr2.imS i2 o2 eo2 (J9 ho.2)
   refine⟨w2,b1,qe2 H0 B _ sd σ _ _ sr2 (PoS.bind sr2 (PoS.weak G1.fz h1) fun y2 u2 Hf2 H2 _ g2 sr3 r2 h2=>?_)⟩
   refine⟨by rw[sizeLine_eq];simp,fun b hl2=>?_⟩
   have G2:=Gr.alloc g2.sub hl2 (.tup [w2,u2])
   have sr4:=sr3.gr G2
   refine⟨by rw[sizeLine_eq];simp,fun z hl3=>?_⟩
   have G3:=Gr.alloc sr4.sub hl3 (.tup [V.ref a,V.ref b])
   have sr5:=sr4.gr G3
   have m2:=g2.fz.trans (G2.fz.trans G3.fz)
   have P1:PrV X.K (upd (upd Hf2 b (.tup [w2,u2])) z (.tup [.ref a,.ref b])) (o1,y1) (.ref a):=⟨a,w1,u1,rfl,m2 _ _ Zu,J9 ho.1,(a2.mono (g1.fz.trans G1.fz)).mono m2,(r1.mono G1.fz).mono m2⟩
   have P2:PrV X.K (upd (upd Hf2 b (.tup [w2,u2])) z (.tup [.ref a,.ref b])) (o2,y2) (.ref b):=⟨b,w2,u2,rfl,G3.fz _ _ Zu,J9 ho.2,b2.mono m2,r2.mono (G2.fz.trans G3.fz)⟩
   have hz:(upd (upd Hf2 b (.tup [w2,u2])) z (.tup [V.ref a,V.ref b])) z=some (.tup [V.ref a,V.ref b]):=Zu
   have h3:=PoS.weak (G2.fz.trans G3.fz) h2
   generalize upd (upd Hf2 b (.tup [w2,u2])) z (.tup [.ref a,.ref b])=Hf3 at *
   generalize upd (upd H2 b (.tup [w2,u2])) z (.tup [.ref a,.ref b])=H3 at *
   refine⟨z,rfl,⟨_,SqT.of (sr5.sub _ _ hz)⟩,?_⟩
   refine⟨fun i m σ' H'=>m=2-i/\∃Hf' sd',Same Hf3 Hf'/\SR X.K H0 B Hf' sd' σ' H'/\PoS X.K E H0 B Hf' (Vi it ip f ([(o1,y1),(o2,y2)].drop i) sd') D,⟨2,rfl,Hf3,sd,Same.refl _,sr5,h3⟩,?_⟩
   rintro i m σ' H' ⟨rfl,Hf',sd',e',sr',h'⟩
   have sq:SqT X.K H' z [V.ref a,V.ref b]:=SqT.of (sr'.sub _ _ (e' _ _ hz))
   have one:∀(od:S×DL.D) (v:V) (r:List (S×DL.D)) (n:Nat),[(o1,y1),(o2,y2)].drop i=od::r->[V.ref a,V.ref b][i]?=some v->PrV X.K Hf3 od v->r=[(o1,y1),(o2,y2)].drop (i+1)->2-(i+1)<2-i ->
     (Zi4 X.K z).go i H'/\∃N:L2.St->Hp->Prop,(∀σ' H',N σ' H'->∃m',m'<2-i/\(m'=2-(i+1)/\∃Hf' sd',Same Hf3 Hf'/\SR X.K H0 B Hf' sd' σ' H'/\PoS X.K E H0 B Hf' (Vi it ip f ([(o1,y1),(o2,y2)].drop (i+1)) sd') D))/\∀x H'',(Zi4 X.K z).yld i H' x H''->Zka X.K 2 (O9 (El it) (O9 (El ip) Zjk)) x σ' H'' fun σ2 H2=>tb {D with nx:=N,ct:=N,bk:=D.nx} σ2 H2:=fun od v r n ed ev pv er hl=>by
    refine⟨⟨_,_,sq,ev⟩,fun σ' H'=>∃Hf' sd',Same Hf3 Hf'/\SR X.K H0 B Hf' sd' σ' H'/\PoS X.K E H0 B Hf' (Vi it ip f ([(o1,y1),(o2,y2)].drop (i+1)) sd') D,fun σ2 H2 w=>⟨2-(i+1),hl,rfl,w⟩,fun x H'' hy=>?_⟩
    obtain⟨e,hy⟩:=hy
    subst e
    have ex:=hy _ sq
    rw[ev] at ex
    cases ex
    obtain⟨p,va,vb,rfl,q1,q2,q3,q4⟩:=pv.mono e'
    refine .inl ⟨p,[va,vb],rfl,.inl (SqT.of (sr'.sub _ _ q1)),rfl,va,[vb],rfl,vb,[],rfl,rfl,?_⟩
    have sr6:=(sr'.set_st it q2 q3).set_im ip q4
    refine qb H0 B Hf' _ _ H'' _ sr6 ?_
    rw[ed] at h'
    unfold Vi at h'
    cases ef:f ((sd'.set it (some od.1)).set ip (some (.im od.2))) with
    |ok o=>
     rw[ef] at h'
     cases o with
     |nx s'=>rw[<-er];exact fun σ' Hf2 H2 e2 sr2=>⟨Hf2,s',e'.trans e2,sr2,PoS.weak e2 h'⟩
     |ct s'=>rw[<-er];exact fun σ' Hf2 H2 e2 sr2=>⟨Hf2,s',e'.trans e2,sr2,PoS.weak e2 h'⟩
     |bk s'=>exact h'
     |rt s=>exact h'
    |ex x=>rw[ef] at h';exact h'
    |bad=>rw[ef] at h';exact h'
   match i,sq,h',one with
   |0,sq,h',one=>exact .inr (one (o1,y1) (.ref a) [(o2,y2)] 0 rfl rfl P1 rfl (by decide))
   |1,sq,h',one=>exact .inr (one (o2,y2) (.ref b) [] 0 rfl rfl P2 rfl (by decide))
   |i+2,sq,h',one=>
    have h2:PoS X.K E H0 B Hf' (.ok (.nx sd')) D:=by simpa[Vi] using h'
    exact .inl ⟨⟨_,sq,by simp⟩,h2 σ' Hf' H' (Same.refl _) sr'⟩
  ·exact h.elim
 ·exact h.elim
end
def Dy (i:Nat)(fk fd:Zi->M D)(sd:Zi):M D:=match sd[i]? with
 |some (some (.fl _ _ q))=>(fk sd).bind fun k=>(fd sd).bind fun d=>(match k with
  |.tup ds=>(match K1 ds with
   |some ks=>.ok ((Y3 q ks).getD d)
   |none=>.bad)
  |_=>.bad)
 |_=>.bad
section
variable {X:Cx}{E:XK}{pos p p1 p2 apos bpos cpos:Pos}{a key dflt:Expr}{es:List Expr}{x vn m:Str}{k:Nat}{f:Addr}{fd:FuncData}{ps:List Str}{F:List S->M S}
def Zbl (i:Nat){C:Addr}{fk fd:Zi->M D}(hu:X.A.units+64<cLine) (oc:ObC X.K "Floor" C) (na:NoAttr X.K C "by_square") (hk:Xo X E key fk) (hf:Xo X E dflt fd)
  (hN:X.N[i]?=some vn:=by rfl) (hv:Tg X.env.scope vn:=by trivial) (hd:(vn==("__debug__":Str))=false:=by decide) (hcd:(vn==("__classdict__":Str))=false:=by decide)
  (hb:attributeBase (.Name vn p) "by_square" X.env (eval (.Name vn p) X.env)=eval (.Name vn p) X.env:=by rfl) (mm:M2 X (.Attribute (.Name vn p) "by_square" bpos) "get" apos key dflt cpos:=by exact⟨rfl,rfl,rfl,rfl⟩):
  Xo X E (.Call (.Attribute (.Attribute (.Name vn p) "by_square" bpos) "get" apos) [key,dflt] [] cpos) (Dy i fk fd):=by
 obtain⟨tk,pk,qk⟩:=hk
 obtain⟨td,pd,qd⟩:=hf
 refine⟨_,Zar (by lia) (U6 (Qc hN hv hd hcd) hb) pk pd mm,fun H0 B Hf sd σ H Q sr h=>?_⟩
 unfold Dy at h
 split at h
 ·rename_i a g q ei
  obtain⟨v,e1,C',dx,gs,d,kq,ys,rfl,e2,e3,e4,e6,e7⟩:=sr.imS i _ ei rfl
  rw[oc.at_] at e2
  cases e2
  refine⟨.ref a,e1,a,C,dx,gs,.ref d,rfl,sr.sub _ _ e3,oc.cls,na,e4.sq,d,rfl,.inr ⟨ys,.inl (sr.sub _ _ e6)⟩,?_⟩
  refine qk H0 B Hf sd σ H _ sr (Po.bind h fun dk y Hf1 H1 _ g1 ry h1=>?_)
  refine qd H0 B Hf1 sd σ H1 _ (sr.gr g1) (Po.bind h1 fun dd z Hf2 H2 _ g2 rz h2=>?_)
  split at h2
  ·rename_i ds
   split at h2
   ·rename_i ks ek
    obtain⟨b,rfl,hb2⟩:=Mt ek g2.sub (ry.mono g2.fz)
    have r2:=(e7.mono g1.fz).mono g2.fz
    refine⟨_,DGet.t (g2.sub _ _ (g2.fz _ _ (g1.fz _ _ e6))) hb2,?_⟩
    cases eg:Y3 q ks with
    |some d'=>
     obtain⟨v,ev,rv⟩:=r2.get ks eg
     rw[ev]
     rw[eg] at h2
     exact Po.ret (R:=rV X.K) g2.sub h2 rv
    |none=>
     rw[r2.none ks eg]
     rw[eg] at h2
     exact Po.ret (R:=rV X.K) g2.sub h2 rz
   ·exact h2.elim
  ·exact h2.elim
 ·exact h.elim
def Se (i:Nat)(F:List S->M S)(fs:Zi->M (List D))(sd:Zi):M D:=match sd[i]? with
 |some (some (.fl a g q))=>(fs sd).bind fun ds=>Gw (F (.fl a g q::ds.map S.im))
 |_=>.bad
def Zbm (i:Nat){C:Addr}{fs:Zi->M (List D)}{pl:Sem Bool} (oc:ObC X.K "Floor" C) (hm:Meth X.K C "people_at" f) (G:FnOk X.prog X.w X.K X.mg X.base Y2 k f fd ps (Pk X.K F)) (hr:Room k X.A) (hb:Binds X.K fd ps []) (ha:Bz X E (a::es) fs)
  (hN:X.N[i]?=some vn:=by rfl) (hv:Tg X.env.scope vn:=by trivial) (hd:(vn==("__debug__":Str))=false:=by decide) (hcd:(vn==("__classdict__":Str))=false:=by decide)
  (hst:starEach (a::es) X.env=(false,eval a X.env)::starEach es X.env:=by rfl) (hpl:(backTo pos (starEach es X.env)).any (·.1)=false:=by rfl)
  (ht:eval (.Call (.Attribute (.Name vn p) "people_at" apos) (a::es) [] pos) X.env=(do
   let ov <-eval (.Name vn p) X.env
   standAt apos.atName
   let (f,first) <-holding [ov] (getMethod ov "people_at" pl)
   callWith pos f first (backTo pos (starEach (a::es) X.env)) (backToKw pos (keywordEach [] X.env))):=by rfl):Xo X E (.Call (.Attribute (.Name vn p) "people_at" apos) (a::es) [] pos) (Se i F fs):=by
 obtain⟨t,pt,qt⟩:=ha
 refine⟨_,Me (dvs:=[]) (E:=E0) (pl:=pl) (Qc hN hv hd hcd) oc.cls hm G hr hb .nil Kx pt hst hpl ht,fun H0 B Hf sd σ H Q sr h=>?_⟩
 unfold Se at h
 split at h
 ·rename_i a g q ei
  obtain⟨v,e1,rv⟩:=sr.imS i _ ei rfl
  obtain⟨C',dx,gs,d,kq,ys,rfl,e2,e3,e4,e6,e7⟩:=id rv
  rw[oc.at_] at e2
  cases e2
  refine⟨.ref a,e1,a,dx,gs,rfl,sr.sub _ _ e3,e4.m1,qt H0 B Hf sd σ H _ sr (Po.bind h fun ds vs Hf1 H1 _ g1 rs h1=>?_)⟩
  rw[List.append_nil]
  have ro:RepS X.K Hf1 (.fl a g q) (.ref a):=RepS.mono g1.fz rv
  exact My g1.sub (.cons ⟨rfl,ro⟩ (Mz rs)) h1
 ·exact h.elim
end
def Az (n:Str)(d:D):List (Str×D)->List (Str×D)
 |[]=>[(n,d)]
 |(g,x)::r=>if g=n then(g,d)::r else(g,x)::Az n d r
def Zbn {K:PySem.W.Frag}{H:Hp}{r:List (Str×D)}{gs:List (Str×V)}(h:RepKV K H r gs)(n:Str){d:D}{v:V}(rv:Rep K H d v):RepKV K H (Az n d r) (Ym n v gs):=by
 induction h with
 |nil=>exact .cons ⟨rfl,rv⟩ .nil
 | @cons p q l l' hp ht ih=>
  obtain⟨p1,p2⟩:=p
  obtain⟨q1,q2⟩:=q
  obtain⟨e,rp⟩:=hp
  have e:p1=q1:=e
  subst e
  unfold Az Ym
  by_cases z:p1=n
  ·rw[if_pos z,if_pos z];exact .cons ⟨rfl,rv⟩ ht
  ·rw[if_neg z,if_neg z];exact .cons ⟨rfl,rp⟩ ih
def Zeo (K:PySem.W.Frag)(C:Addr)(Hf H:Hp)(a:Addr)(r:List (Str×D)):Prop:=∃dx gs,H a=some (.ins C dx gs)/\RepKV K Hf r gs
def Py (K:PySem.W.Frag)(C:Addr)(F:List (Str×D)->List D->Option (List (Str×D))):Sp:=fun vs H Q _=>∃Hf r ds a rest r',vs=.ref a::rest/\Same Hf H/\Hf a=none/\Zeo K C Hf H a r/\Reps K Hf ds rest/\F r ds=some r' /\
 ∀Hf' H',GrM a Hf H Hf' H'->Zeo K C Hf' H' a r'->Q .non H'
theorem GrM.refl {a:Addr}{Hf H:Hp}(e:Same Hf H):GrM a Hf H Hf H:=⟨Same.refl _,e,fun _ _ _ q=>q,fun _ _ q=>q⟩
theorem GrM.trans {a:Addr}{Hf H Hf1 H1 Hf2 H2:Hp}(x:GrM a Hf H Hf1 H1)(y:GrM a Hf1 H1 Hf2 H2)(hl:Lv H a->Lv H1 a):GrM a Hf H Hf2 H2:=
 ⟨x.fz.trans y.fz,y.sub,fun b u hb q=>y.all b u hb (x.all b u hb q),fun b hb hn=>y.ban b (by
  by_cases e:b=a
  ·subst e;exact hl hb
  ·obtain⟨o,ho,n⟩:=hb
   exact⟨o,x.all b o e ho,n⟩) (x.ban b hb hn)⟩
def Sf {H:Hp}{a C dx:Addr}{gs:List (Str×V)}(h:H a=some (.ins C dx gs)):Lv H a:=⟨_,h,fun _ q=>by cases q⟩
def GrM.of_gr {a:Addr}{Hf H Hf' H':Hp}(g:Gr Hf H Hf' H'):GrM a Hf H Hf' H':=⟨g.fz,g.sub,fun b u _ q=>g.all b u q,g.ban⟩
structure TkC (K:PySem.W.Frag) (C:Addr):Prop where
 oc:ObC K "Track" C
 n1:NoAttr K C "begin"
 n2:NoAttr K C "square"
 n3:NoAttr K C "heading"
 n4:NoAttr K C "due"
 n5:NoAttr K C "lap"
def Zl8 (r:List (Str×D))(n:Str):Option Int:=match r.lookup n with
 |some (.int i)=>some i
 |_=>none
def Zh8 {K:PySem.W.Frag}{H:Hp}{r:List (Str×D)}{gs:List (Str×V)}(h:RepKV K H r gs){n:Str}{i:Int}(e:Zl8 r n=some i):gs.lookup n=some (.int i):=by
 unfold Zl8 at e
 split at e
 ·rename_i j ej
  cases e
  have k:=Gx h n
  rw[ej] at k
  obtain⟨v,e1,e2⟩:=k
  rw[rep_int] at e2
  rw[e1,e2]
 ·cases e
structure ISt (K:PySem.W.Frag) (C a:Addr) (H0:Hp) (B:Addr->Prop) (Hb Hf:Hp) (sd:Zi) (σ:L2.St) (H:Hp) (r:List (Str×D)):Prop where
 fb:Same Hb Hf
 sr:SR K H0 B Hf sd σ H
 s0:σ[0]?=some (some (.ref a))
 h0:H0 a=none
 hf:Hf a=none
 im:∀(i:Nat) (t:S),sd[i]?=some (some t)->t.own=false
 at_:Zeo K C Hf H a r
section
variable {K:PySem.W.Frag}{C a:Addr}{H0:Hp}{B:Addr->Prop}{Hb Hf H Hf' H':Hp}{sd:Zi}{σ:L2.St}{r:List (Str×D)}
theorem ISt.gr (x:ISt K C a H0 B Hb Hf sd σ H r)(g:Gr Hf H Hf' H'):ISt K C a H0 B Hb Hf' sd σ H' r:=by
 obtain⟨dx,gs,e1,e2⟩:=x.at_
 exact⟨x.fb.trans g.fz,x.sr.gr g,x.s0,x.h0,g.ban a (Sf e1) x.hf,x.im,dx,gs,g.all _ _ e1,e2.mono g.fz⟩
theorem ISt.upd (x:ISt K C a H0 B Hb Hf sd σ H r){dx:Addr}{gs:List (Str×V)}{r':List (Str×D)}(h:RepKV K Hf r' gs):ISt K C a H0 B Hb Hf sd σ (L2.upd H a (.ins C dx gs)) r':=by
 have sr:=x.sr
 refine⟨x.fb,⟨fun b u q=>?_,fun b u q=>?_,sr.ban,sr.bt,sr.len,sr.imS,fun i t e o=>?_,fun i j t u p hij e1 o1 _ _ _ _=>?_⟩,x.s0,x.h0,x.hf,x.im,dx,gs,Zu,h⟩
 ·rw[Zn (Z3 q x.hf)];exact sr.sub b u q
 ·rw[Zn (Z3 q x.h0)];exact sr.all b u q
 ·rw[x.im i t e] at o;cases o
 ·rw[x.im i t e1] at o1;cases o1
theorem ISt.set (x:ISt K C a H0 B Hb Hf sd σ H r)(i:Nat)(hi:i≠0){d:D}{v:V}(h:Rep K Hf d v):ISt K C a H0 B Hb Hf (sd.set i (some (.im d))) (σ.set i (some v)) H r:=by
 refine⟨x.fb,x.sr.set_im i h,(Zl7 hi).trans x.s0,x.h0,x.hf,fun j t e=>?_,x.at_⟩
 by_cases hj:i=j
 ·subst hj
  have hl:i<sd.length:=by
   have:=(List.getElem?_eq_some_iff.mp e).1
   simpa using this
  rw[List.getElem?_set_self hl] at e
  cases e
  rfl
 ·rw[List.getElem?_set_ne hj] at e
  exact x.im j t e
end
def Lm {K:PySem.W.Frag}{N:List Str}{C:Addr}{Hf H:Hp}{r:List (Str×D)}{ds:List D}{a:Addr}{vs:List V}{m:Nat}(e:Same Hf H)(ea:Hf a=none)(ta:Zeo K C Hf H a r)(rs:Reps K Hf ds vs)(hN:N.length=ds.length+1+m):
  ISt K C a (Ge H a) (fun b=>Lv (Ge H a) b/\Hf b=none) Hf Hf (none::(ds.map (fun d=>some (S.im d))++List.replicate m none)) (L2.X6 N (.ref a::vs)) H r:=by
 have hlen:=rs.length
 have es:L2.X6 N (V.ref a::vs)=some (V.ref a)::(vs.map some++List.replicate m none):=by
  unfold L2.X6
  rw[List.map_cons,List.cons_append,show N.length-(V.ref a::vs).length=m by rw[List.length_cons];lia]
 rw[es]
 have tl:∀(i:Nat) (t:S),(none::(ds.map (fun d=>some (S.im d))++List.replicate m none))[i]?=some (some t)->t.own=false/\∃v,(some (V.ref a)::(vs.map some++List.replicate m none))[i]?=some (some v)/\RepS K Hf t v:=fun i t h=>by
  cases i with
  |zero=>rw[List.getElem?_cons_zero] at h;cases h
  |succ i=>
   rw[List.getElem?_cons_succ] at h ⊢
   by_cases hl:i<ds.length
   ·rw[List.getElem?_append_left (by simpa using hl),List.getElem?_map] at h
    cases q:ds[i]? with
    |none=>rw[q] at h;cases h
    |some d=>
     rw[q] at h
     cases h
     obtain⟨y,e1,e2⟩:=rs.get q
     have:i<vs.length:=(List.getElem?_eq_some_iff.mp e1).1
     exact⟨rfl,y,by rw[List.getElem?_append_left (by simpa using this),List.getElem?_map,e1];rfl,e2⟩
   ·rw[List.getElem?_append_right (by simpa using hl),List.getElem?_replicate] at h
    split at h<;>cases h
 refine⟨Same.refl _,⟨e,K2 H a,fun _ h=>h.2,fun _ h=>h.1,by simp[hlen],fun i t h _=>(tl i t h).2,fun i t h ho=>?_,fun i j t u p hij h ho h' ho' _ _=>?_⟩,rfl,K3 H a,ea,fun i t h=>(tl i t h).1,ta⟩
 ·rw[(tl i t h).1] at ho;cases ho
 ·rw[(tl i t h).1] at ho;cases ho
def ISt.back {K:PySem.W.Frag}{C a:Addr}{Hf H Hf' H':Hp}{sd:Zi}{σ:L2.St}{r:List (Str×D)}(x:ISt K C a (Ge H a) (fun b=>Lv (Ge H a) b/\Hf b=none) Hf Hf' sd σ H' r):GrM a Hf H Hf' H':=by
 refine⟨x.fb,x.sr.sub,fun b u hb hu=>x.sr.all b u ((Js hb).trans hu),fun b hb hn=>?_⟩
 by_cases hba:b=a
 ·subst hba;exact x.hf
 ·obtain⟨o,ho,hno⟩:=hb
  exact x.sr.ban b ⟨⟨o,(Js hba).trans ho,hno⟩,hn⟩
abbrev Q2:=List (Str×D)
def Dz (X:Cx)(C:Addr)(e:Expr)(g:Zi->Q2->M D):Prop:=
 ∃t:TE,PE X e t/\∀(a:Addr) (H0:Hp) (B:Addr->Prop) (Hb Hf:Hp) (sd:Zi) (σ:L2.St) (H:Hp) (r:Q2) (Q:VK),ISt X.K C a H0 B Hb Hf sd σ H r->Po X.K E0 (rV X.K) Hf H (g sd r) Q->t σ H Q
def Zle (X:Cx)(C:Addr)(e:Expr)(g:Zi->Q2->M Bool):Prop:=
 ∃t:TT,PT X e t/\∀(a:Addr) (H0:Hp) (B:Addr->Prop) (Hb Hf:Hp) (sd:Zi) (σ:L2.St) (H:Hp) (r:Q2) (Q:Bool->Hp->Prop),ISt X.K C a H0 B Hb Hf sd σ H r->Po X.K E0 rQ Hf H (g sd r) Q->t σ H Q
def Zl9 (K:PySem.W.Frag)(C a:Addr)(H0:Hp)(B:Addr->Prop)(Hb:Hp)(o:Option (Zi×Q2))(D':Ends):Prop:=match o with
 |some x=>∀σ' Hf' H',ISt K C a H0 B Hb Hf' x.1 σ' H' x.2->D'.nx σ' H'
 |none=>False
def Zh9 (X:Cx)(C:Addr)(st:Stmt)(g:Zi->Q2->Option (Zi×Q2)):Prop:=
 ∃t:TS,PS X st t/\∀(a:Addr) (H0:Hp) (B:Addr->Prop) (Hb Hf:Hp) (sd:Zi) (σ:L2.St) (H:Hp) (r:Q2) (D':Ends),ISt X.K C a H0 B Hb Hf sd σ H r->Zl9 X.K C a H0 B Hb (g sd r) D'->t D' σ H
def D0 (X:Cx)(C:Addr)(st:List Stmt)(g:Zi->Q2->Option (Zi×Q2)):Prop:=
 ∃t:TS,PSs X st t/\∀(a:Addr) (H0:Hp) (B:Addr->Prop) (Hb Hf:Hp) (sd:Zi) (σ:L2.St) (H:Hp) (r:Q2) (D':Ends),ISt X.K C a H0 B Hb Hf sd σ H r->Zl9 X.K C a H0 B Hb (g sd r) D'->t D' σ H
def Zma {α:Type}:M α->Option α
 |.ok a=>some a
 |_=>none
def Zia (sd:Zi)(r:Q2):Option (Zi×Q2):=some (sd,r)
def K4 (f g:Zi->Q2->Option (Zi×Q2))(sd:Zi)(r:Q2):Option (Zi×Q2):=(f sd r).bind fun x=>g x.1 x.2
def Zdg (c:Zi->Q2->M Bool)(f g:Zi->Q2->Option (Zi×Q2))(sd:Zi)(r:Q2):Option (Zi×Q2):=(Zma (c sd r)).bind fun b=>if b then f sd r else g sd r
def Nx (n:Str)(e:Zi->Q2->M D)(sd:Zi)(r:Q2):Option (Zi×Q2):=(Zma (e sd r)).bind fun d=>if r.length<=900 then some (sd,Az n d r) else none
def Oc (i:Nat)(e:Zi->Q2->M D)(sd:Zi)(r:Q2):Option (Zi×Q2):=(Zma (e sd r)).bind fun d=>some (sd.set i (some (.im d)),r)
def Zbo (n:Str)(e:Zi->Q2->M D)(sd:Zi)(r:Q2):Option (Zi×Q2):=match Zl8 r n,e sd r with
 |some i,.ok (.int j)=>if r.length<=900 then some (sd,Az n (.int (i+j)) r) else none
 |_,_=>none
def Fi (m:Str)(F:Q2->List D->Option Q2)(sd:Zi)(r:Q2):Option (Zi×Q2):=if r.lookup m=none then(F r []).map fun r'=>(sd,r') else none
def Km (f:Zi->M D)(sd:Zi)(_:Q2):M D:=f sd
def U2 (n:Str)(_:Zi)(r:Q2):M D:=match r.lookup n with
 |some d=>.ok d
 |none=>.bad
def C9 (g:D->D->M D)(fa fb:Zi->Q2->M D)(sd:Zi)(r:Q2):M D:=(fa sd r).bind fun x=>(fb sd r).bind fun y=>g x y
def Zep (c:Zi->Q2->M Bool)(fa fb:Zi->Q2->M D)(sd:Zi)(r:Q2):M D:=(c sd r).bind fun b=>if b then fa sd r else fb sd r
def gB (f:Zi->Q2->M D)(sd:Zi)(r:Q2):M Bool:=(f sd r).bind asB
section
variable {X:Cx}{C:Addr}{pos pos' p p1 apos tpos:Pos}{e e1 e2:Expr}{x vn n m:Str}
def Xm {f:Zi->M D}(h:Xo X E0 e f):Dz X C e (Km f):=by
 obtain⟨t,pt,q⟩:=h
 exact⟨t,pt,fun a H0 B Hb Hf sd σ H r Q x h=>q H0 B Hf sd σ H Q x.sr h⟩
def Uk (cl:Cls X.K C)(na:NoAttr X.K C n)(hN:X.N[0]?=some vn:=by rfl)(hv:Tg X.env.scope vn:=by trivial) (hd:(vn==("__debug__":Str))=false:=by decide)
  (hcd:(vn==("__classdict__":Str))=false:=by decide) (hb:attributeBase (.Name vn p) n X.env (eval (.Name vn p) X.env)=eval (.Name vn p) X.env:=by rfl):Dz X C (.Attribute (.Name vn p) n pos) (U2 n):=by
 refine⟨_,U6 (Qc hN hv hd hcd) hb,fun a H0 B Hb Hf sd σ H r Q x h=>?_⟩
 obtain⟨dx,gs,e1,e2⟩:=x.at_
 have k:=Gx e2 n
 unfold U2 at h
 split at h
 ·rename_i d ed
  rw[ed] at k
  obtain⟨v,l,rv⟩:=k
  exact⟨.ref a,x.s0,a,C,dx,gs,v,rfl,e1,cl,na,l,Po.ret (R:=rV X.K) x.sr.sub h rv⟩
 ·exact h.elim
def Zki {fa fb:Zi->Q2->M D}{g:D->D->M D}{ta tb:TE}{rr:R2}{a:Addr}{H0:Hp}{B:Addr->Prop}{Hb Hf:Hp}{sd:Zi}{σ:L2.St}{H:Hp}{r:Q2}{Q:VK}(qa:∀(a:Addr) (H0:Hp) (B:Addr->Prop) (Hb Hf:Hp) (sd:Zi) (σ:L2.St) (H:Hp) (r:Q2) (Q:VK),ISt X.K C a H0 B Hb Hf sd σ H r->Po X.K E0 (rV X.K) Hf H (fa sd r) Q->ta σ H Q)(qb:∀(a:Addr) (H0:Hp) (B:Addr->Prop) (Hb Hf:Hp) (sd:Zi) (σ:L2.St) (H:Hp) (r:Q2) (Q:VK),ISt X.K C a H0 B Hb Hf sd σ H r->Po X.K E0 (rV X.K) Hf H (fb sd r) Q->tb σ H Q)(hr:∀(Hf H:Hp) (x y:V) (dx dy:D) (Q:VK),Same Hf H->Rep X.K Hf dx x->Rep X.K Hf dy y->Po X.K E0 (rV X.K) Hf H (g dx dy) Q->rr x y H Q)(x:ISt X.K C a H0 B Hb Hf sd σ H r)(h:Po X.K E0 (rV X.K) Hf H (C9 g fa fb sd r) Q):Zi5 rr ta tb σ H Q:=by
 refine qa a H0 B Hb Hf sd σ H r _ x (Po.bind h fun d1 v1 Hf1 H1 _ g1 r1 h1=>?_)
 refine qb a H0 B Hb Hf1 sd σ H1 r _ (x.gr g1) (Po.bind h1 fun d2 v2 Hf2 H2 _ g2 r2 h2=>?_)
 exact hr Hf2 H2 v1 v2 d1 d2 Q g2.sub (Rep.mono g2.fz r1) r2 h2
def Zbp {op:Operator}{g:D->D->M D}{fa fb:Zi->Q2->M D}(ho:P6 X E0 (binaryOp op) g)(ha:Dz X C e1 fa)(hb:Dz X C e2 fb):Dz X C (.BinOp e1 op e2 pos) (C9 g fa fb):=by
 obtain⟨r,hr,qr⟩:=ho
 obtain⟨ta,pa,qa⟩:=ha
 obtain⟨tb,pb,qb⟩:=hb
 exact⟨_,Zfy hr pa pb,fun a H0 B Hb Hf sd σ H r Q x h=>Zki qa qb qr x h⟩
def Zms (g:D->M D)(fa:Zi->Q2->M D)(sd:Zi)(r:Q2):M D:=(fa sd r).bind g
def Zib {op:UnaryOp}{g:D->M D}{fa:Zi->Q2->M D}(ho:Zl4 X E0 (unaryOp op) g)(ha:Dz X C e1 fa):Dz X C (.UnaryOp op e1 pos) (Zms g fa):=by
 obtain⟨r,hr,qr⟩:=ho
 obtain⟨ta,pa,qa⟩:=ha
 refine⟨_,Zac hr pa,fun a H0 B Hb Hf sd σ H r Q x h=>?_⟩
 refine qa a H0 B Hb Hf sd σ H r _ x (Po.bind h fun d v Hf1 H1 _ g1 rv h1=>?_)
 exact qr Hf1 H1 v d Q g1.sub rv h1
def Fj {op:CmpOp}{g:D->D->M D}{fa fb:Zi->Q2->M D}(ho:P6 X E0 (compareOp op) g)(ha:Dz X C e1 fa)(hb:Dz X C e2 fb)(hm:behindInMarks op e2=false):Zle X C (.Compare e1 [op] [e2] pos) (gB (C9 g fa fb)):=by
 obtain⟨r,hr,qr⟩:=ho
 obtain⟨ta,pa,qa⟩:=ha
 obtain⟨tb,pb,qb⟩:=hb
 refine⟨_,Eo hr pa pb hm,fun a H0 B Hb Hf sd σ H r Q x h=>?_⟩
 refine Zki qa qb qr x (Po.bind h fun d v Hf1 H1 _ g1 rv h1=>?_)
 unfold asB at h1
 split at h1
 ·exact⟨_,rep_bl.mp rv,Po.ret (R:=rQ) g1.sub h1 rfl⟩
 ·exact h1.elim
def Fk {f:Zi->M Bool}(h:B0 X E0 e f):Zle X C e (fun sd _=>f sd):=by
 obtain⟨t,pt,q⟩:=h
 exact⟨t,pt,fun a H0 B Hb Hf sd σ H r Q x h=>q H0 B Hf sd σ H Q x.sr h⟩
def Zic {c:Zi->Q2->M Bool}{fa fb:Zi->Q2->M D}{ce:Expr}(hc:Zle X C ce c)(ha:Dz X C e1 fa)(hb:Dz X C e2 fb):Dz X C (.IfExp ce e1 e2 pos) (Zep c fa fb):=by
 obtain⟨tc,pc,qc⟩:=hc
 obtain⟨ta,pa,qa⟩:=ha
 obtain⟨tb,pb,qb⟩:=hb
 refine⟨_,B6 pc pa pb,fun a H0 B Hb Hf sd σ H r Q x h=>?_⟩
 refine qc a H0 B Hb Hf sd σ H r _ x (Po.bind (R:=rQ) h fun b v Hf1 H1 _ g1 rv h1=>?_)
 have e:b=v:=rv
 subst e
 cases b with
 |true=>rw[if_pos rfl] at h1 ⊢;exact qa a H0 B Hb Hf1 sd σ H1 r Q (x.gr g1) h1
 |false=>rw[if_neg Bool.false_ne_true] at h1 ⊢;exact qb a H0 B Hb Hf1 sd σ H1 r Q (x.gr g1) h1
def Fl:D0 X C [] Zia:=⟨_,P4,fun _ _ _ _ Hf _ _ _ _ _ x h=>h _ Hf _ x⟩
def Vj {st:Stmt}{g:Zi->Q2->Option (Zi×Q2)}(h:Zh9 X C st g):D0 X C [st] g:=by
 obtain⟨t,pt,q⟩:=h
 exact⟨t,Jm pt,q⟩
def Xs {st:Stmt}{rest:List Stmt}{f g:Zi->Q2->Option (Zi×Q2)}(h:Zh9 X C st f)(h2:D0 X C rest g):D0 X C (st::rest) (K4 f g):=by
 obtain⟨t,pt,q⟩:=h
 obtain⟨t2,pt2,q2⟩:=h2
 refine⟨_,Qz pt pt2,fun a H0 B Hb Hf sd σ H r D' x h=>?_⟩
 refine q a H0 B Hb Hf sd σ H r _ x ?_
 unfold K4 at h
 cases e:f sd r with
 |none=>rw[e] at h;exact h.elim
 |some y=>
  rw[e] at h
  exact fun σ' Hf' H' x'=>q2 a H0 B Hb Hf' y.1 σ' H' y.2 D' x' h
def D1 {c:Expr}{xs ys:List Stmt}{k:Zi->Q2->M Bool}{f g:Zi->Q2->Option (Zi×Q2)}(hc:Zle X C c k)(h:D0 X C xs f)(h2:D0 X C ys g):Zh9 X C (.If c xs ys pos) (Zdg k f g):=by
 obtain⟨t,pt,q⟩:=hc
 obtain⟨t1,pt1,q1⟩:=h
 obtain⟨t2,pt2,q2⟩:=h2
 refine⟨_,Ek pt pt1 pt2,fun a H0 B Hb Hf sd σ H r D' x h=>?_⟩
 refine q a H0 B Hb Hf sd σ H r _ x ?_
 unfold Zdg at h
 cases ek:k sd r with
 |ok b=>
  rw[ek] at h
  intro v Hf1 H1 g1 rv
  have e:b=v:=rv
  subst e
  cases b with
  |true=>exact q1 a H0 B Hb Hf1 sd σ H1 r D' (x.gr g1) h
  |false=>exact q2 a H0 B Hb Hf1 sd σ H1 r D' (x.gr g1) h
 |ex z=>rw[ek] at h;exact h.elim
 |bad=>rw[ek] at h;exact h.elim
def Kn {g:Zi->Q2->M D}(cl:Cls X.K C)(na:NoAttr X.K C n)(he:Dz X C e g)(hN:X.N[0]?=some vn:=by rfl)(hv:Tg X.env.scope vn:=by trivial) (hd:(vn==("__debug__":Str))=false:=by decide)
  (hcd:(vn==("__classdict__":Str))=false:=by decide) (hs:swapsWith e (some (.Attribute (.Name vn p) n pos')) pos.line X.env=pure false:=by rfl):Zh9 X C (.Assign [.Attribute (.Name vn p) n pos'] e pos) (Nx n g):=by
 obtain⟨t,pt,q⟩:=he
 refine⟨_,Mc (Qc hN hv hd hcd) pt hs,fun a H0 B Hb Hf sd σ H r D' x h=>?_⟩
 refine q a H0 B Hb Hf sd σ H r _ x ?_
 unfold Nx at h
 cases ek:g sd r with
 |ok d=>
  rw[ek] at h
  intro v Hf1 H1 g1 rv
  have y:=x.gr g1
  obtain⟨dx,gs,e1,e2⟩:=y.at_
  have hl:=RepKV.length e2
  have h:Zl9 X.K C a H0 B Hb (if r.length<=900 then some (sd,Az n d r) else none) D':=h
  split at h
  ·exact⟨.ref a,x.s0,a,C,dx,gs,rfl,e1,cl,na,by lia,h σ Hf1 _ (y.upd (Zbn e2 n rv))⟩
  ·exact h.elim
 |ex z=>rw[ek] at h;exact h.elim
 |bad=>rw[ek] at h;exact h.elim
def Fm (i:Nat){g:Zi->Q2->M D}(hN:X.N.Nodup)(he:Dz X C e g)(h0:i≠0:=by decide)(hi:X.N[i]?=some x:=by rfl)(hx:Zde X.env.scope x:=by trivial)(hs:swapsWith e (some (.Name x pos')) pos.line X.env=pure false:=by rfl)(hf:X.fn x=true\/X.env.scope.names.lookup x=some .local:=by first|exact .inl rfl|exact .inr rfl|assumption):Zh9 X C (.Assign [.Name x pos'] e pos) (Oc i g):=by
 obtain⟨t,pt,q⟩:=he
 refine⟨_,W1 hN hi hx pt hs hf,fun a H0 B Hb Hf sd σ H r D' x h=>?_⟩
 refine q a H0 B Hb Hf sd σ H r _ x ?_
 unfold Oc at h
 cases ek:g sd r with
 |ok d=>
  rw[ek] at h
  intro v Hf1 H1 g1 rv
  exact h _ Hf1 H1 ((x.gr g1).set i h0 rv)
 |ex z=>rw[ek] at h;exact h.elim
 |bad=>rw[ek] at h;exact h.elim
def M0 {g:Zi->Q2->M D}(cl:Cls X.K C)(na:NoAttr X.K C n)(he:Dz X C e g)(hN:X.N[0]?=some vn:=by rfl)(hv:Tg X.env.scope vn:=by trivial) (hd:(vn==("__debug__":Str))=false:=by decide)
  (hcd:(vn==("__classdict__":Str))=false:=by decide):Zh9 X C (.AugAssign (.Attribute (.Name vn p) n tpos) .Add e pos) (Zbo n g):=by
 obtain⟨t,pt,q⟩:=he
 refine⟨_,Ih (Qc hN hv hd hcd) pt Zha,fun a H0 B Hb Hf sd σ H r D' x h=>?_⟩
 unfold Zbo at h
 split at h
 ·rename_i i j ei ej
  obtain⟨dx,gs,e1,e2⟩:=x.at_
  refine⟨.ref a,x.s0,a,C,dx,gs,.int i,rfl,e1,cl,na,Zh8 e2 ei,q a H0 B Hb Hf sd σ H r _ x ?_⟩
  rw[ej]
  intro v Hf1 H1 g1 rv
  have y:=x.gr g1
  obtain⟨dx',gs',e1',e2'⟩:=y.at_
  have hl:=RepKV.length e2'
  split at h
  ·exact⟨i,j,rfl,rep_int.mp rv,dx',gs',e1',by lia,h σ Hf1 _ (y.upd (Zbn e2' n (rep_int.mpr rfl)))⟩
  ·exact h.elim
 ·exact h.elim
end
def Zdh (n m:Nat)(g:Zi->Q2->Option (Zi×Q2))(r:Q2)(ds:List D):Option Q2:=if ds.length=n then(g (none::(ds.map (fun d=>some (S.im d))++List.replicate m none)) r).map (·.2) else none
def Zeq {P:Program}{w:World}{K:PySem.W.Frag}{mg:Str->Option Value}{base:Heap}{x qual:Str}{st:Stmt}{f C:Addr}{fd:FuncData}{N ps:List Str}{k m n:Nat}{fb:Zi->Q2->Option (Zi×Q2)}(F:Fun K x qual st f fd)(sc:FnScope N ps (Zj st))(hn:ps.length=n+1)(hN:N.length=n+1+m)(hbody:∀(cdv:Value) (A:Around) (outer:List Env) (s:Shared) (H:Hp) (E:XK),Room k (A.deeper (envOfC qual (Zj st) s.heap.objs.size f cdv)) ->
   D0 (Kh Y2 P w K mg base N qual (Zj st) f cdv A outer s H E).nox C (Xj st) fb):FnOk P w K mg base Y2 (k+1) f fd ps (Py K C (Zdh n m fb)):=by
 refine F.ok sc (fun vs H Q E h=>?_) (fun cdv A outer s H vs Q E hr h=>?_)
 ·obtain⟨Hf,r,ds,a,rest,r',rfl,e,ea,ta,rs,hF,q⟩:=h
  unfold Zdh at hF
  split at hF
  ·rename_i hl
   rw[List.length_cons,<-rs.length,hl,hn]
  ·cases hF
 ·obtain⟨Hf,r,ds,a,rest,r',rfl,e,ea,ta,rs,hF,q⟩:=h
  obtain⟨t,p,qt⟩:=hbody cdv A outer s H E hr
  unfold Zdh at hF
  split at hF
  ·rename_i hl
   obtain⟨y,ey,er⟩:=Option.map_eq_some_iff.mp hF
   refine⟨t,p,qt a _ _ Hf Hf _ (L2.X6 N (.ref a::rest)) H r _ (Lm (N:=N) (m:=m) e ea ta rs (by lia)) ?_⟩
   rw[ey]
   intro σ' Hf' H' x'
   rw[er] at x'
   exact q Hf' H' x'.back x'.at_
  ·cases hF
section
variable {X:Cx}{C:Addr}{pos p apos spos:Pos}{vn m:Str}{k:Nat}{f:Addr}{fd:FuncData}{ps:List Str}{F:Q2->List D->Option Q2}
def A1 {pl:Sem Bool}(cl:Cls X.K C)(hm:Meth X.K C m f)(G:FnOk X.prog X.w X.K X.mg X.base Y2 k f fd ps (Py X.K C F))(hr:Room k X.A)(hb:Binds X.K fd ps [])(hN:X.N[0]?=some vn:=by rfl)(hv:Tg X.env.scope vn:=by trivial) (hd:(vn==("__debug__":Str))=false:=by decide) (hcd:(vn==("__classdict__":Str))=false:=by decide)
  (ht:eval (.Call (.Attribute (.Name vn p) m apos) [] [] pos) X.env=(do
   let ov <-eval (.Name vn p) X.env
   standAt apos.atName
   let (f,first) <-holding [ov] (getMethod ov m pl)
   callWith pos f first (backTo pos (starEach [] X.env)) (backToKw pos (keywordEach [] X.env))):=by rfl)
  (hs:swapsWith (.Call (.Attribute (.Name vn p) m apos) [] [] pos) none spos.line X.env=pure false:=by rfl):Zh9 X C (.Expr (.Call (.Attribute (.Name vn p) m apos) [] [] pos) spos) (Fi m F):=by
 refine⟨_,Wq (B8 (dvs:=[]) (E:=E0) (pl:=pl) (Qc hN hv hd hcd) cl hm G hr hb .nil Kx ht) hs,fun a H0 B Hb Hf sd σ H r D' x h=>?_⟩
 unfold Fi at h
 split at h
 ·rename_i hl
  obtain⟨dx,gs,e1,e2⟩:=x.at_
  have kl:=Gx e2 m
  rw[hl] at kl
  cases eF:F r [] with
  |none=>rw[eF] at h;exact h.elim
  |some r'=>
   rw[eF] at h
   refine⟨.ref a,x.s0,a,dx,gs,rfl,e1,kl,Hf,r,[],a,[],r',rfl,x.sr.sub,x.hf,⟨dx,gs,e1,e2⟩,Reps.nil,eF,fun Hf' H' g ta=>?_⟩
   have sr:=x.sr
   refine h σ Hf' H' ⟨x.fb.trans g.fz,⟨g.sub,fun b u q=>g.all b u (Z3 q x.h0) (sr.all b u q),fun b hb=>g.ban b (sr.all.lv (sr.bt b hb)) (sr.ban b hb),sr.bt,sr.len,fun i t e z=>?_,fun i t e o=>?_,fun i j t u p hij e1 o1 _ _ _ _=>?_⟩,x.s0,x.h0,g.ban a (Sf e1) x.hf,x.im,ta⟩
   ·obtain⟨v,z1,z2⟩:=sr.imS i t e z
    exact⟨v,z1,z2.mono g.fz⟩
   ·rw[x.im i t e] at o;cases o
   ·rw[x.im i t e1] at o1;cases o1
 ·exact h.elim
end
section
variable {K:PySem.W.Frag}{H:Hp}{a:Addr}{o:HO}
def Zer (o:HO):Prop:=(∀xs:List V,o≠HO.tup xs)/\(∀xs:List V,o≠HO.lst xs)/\∀(u:Obj) (v:HO),o≠HO.frz u v
def Jt {C dx:Addr}{gs:List (Str×V)}:Zer (.ins C dx gs):=⟨fun _ z=>HO.noConfusion z,fun _ z=>HO.noConfusion z,fun _ _ z=>HO.noConfusion z⟩
def Fn {b:Addr}{u:HO}(h:H a=some o)(e:H b=some u)(ne:u≠o):Ge H a b=some u:=by
 rw[Js fun z=>by subst z;rw[h] at e;cases e;exact ne rfl]
 exact e
mutual
theorem Rep.rm (h:H a=some o)(n:Zer o):∀{d:D}{v:V},Rep K H d v->Rep K (Ge H a) d v
 |.non,_,q=>by unfold Rep at q ⊢;exact q
 |.bl _,_,q=>by unfold Rep at q ⊢;exact q
 |.int _,_,q=>by unfold Rep at q ⊢;exact q
 |.str _,_,q=>by unfold Rep at q ⊢;exact q
 |.tup ds,_,q=>by
  unfold Rep at q ⊢
  obtain⟨b,xs,e1,e2,e3⟩:=q
  exact⟨b,xs,e1,Fn h e2 (Ne.symm (n.1 xs)),Reps.rm h n e3⟩
 |.lst ds,_,q=>by
  unfold Rep at q ⊢
  obtain⟨b,xs,e1,e2,e3⟩:=q
  refine⟨b,xs,e1,?_,Reps.rm h n e3⟩
  rcases e2 with(z|⟨u,z⟩)|z
  ·exact .inl (.inl (Fn h z (Ne.symm (n.2.1 xs))))
  ·exact .inl (.inr ⟨u,Fn h z (Ne.symm (n.2.2 _ _))⟩)
  ·exact .inr z
theorem Reps.rm (h:H a=some o)(n:Zer o):∀{ds:List D}{xs:List V},Reps K H ds xs->Reps K (Ge H a) ds xs
 |[],_,q=>by unfold Reps at q ⊢;exact q
 |d::ds,_,q=>by
  unfold Reps at q ⊢
  obtain⟨x,r,e1,e2,e3⟩:=q
  exact⟨x,r,e1,Rep.rm h n e2,Reps.rm h n e3⟩
end
theorem RepKV.rm {κ:Type}{l:List (κ×D)}{m:List (κ×V)}(h:H a=some o)(n:Zer o)(r:RepKV K H l m):RepKV K (Ge H a) l m:=Paired.mapP r fun _ _ q=>⟨q.1,q.2.rm h n⟩
end
def S.adr:S->Option Addr
 |.ob a _ _=>some a
 |.fl a _ _=>some a
 |_=>none
section
variable {K:PySem.W.Frag}{H0 Hf H:Hp}{B:Addr->Prop}{sd:Zi}{σ:L2.St}{a C dx:Addr}{gs:List (Str×V)}
theorem RepS.rm (h:Hf a=some (.ins C dx gs)){t:S}{v:V}(ht:t.adr≠some a)(hx:∀x,t≠.xc x)(q:RepS K Hf t v):RepS K (Ge Hf a) t v:=by
 cases t with
 |im d=>exact Rep.rm h Jt q
 |xc x=>exact absurd rfl (hx x)
 |fn x=>exact q
 |ob b c r=>
  obtain⟨C',dx',gs',e1,e2,e3,e4⟩:=q
  have:b≠a:=fun z=>ht (by rw[z];rfl)
  exact⟨C',dx',gs',e1,e2,(Js this).trans e3,e4.rm h Jt⟩
 |fl b g q'=>
  obtain⟨C',dx',gs',d,k,ys,e1,e2,e3,e4,e5,e6⟩:=q
  have:b≠a:=fun z=>ht (by rw[z];rfl)
  exact⟨C',dx',gs',d,k,ys,e1,e2,(Js this).trans e3,⟨let ⟨v,z1,z2⟩:=e4.hall;⟨v,z1,z2.rm h Jt⟩,e4.sq,e4.kn,e4.m1,e4.m2⟩,Fn h e5 (by intro z;cases z),e6.rm h Jt⟩
 |ow ds=>trivial
 |od kvs=>trivial
 |dk kvs=>trivial
def Zkj (h:Hf a=some (.ins C dx gs)){p:Addr}{t:S}(q:S.at K Hf H p t):S.at K (Ge Hf a) H p t:=by
 cases t with
 |im d=>exact q.elim
 |xc x=>exact q.elim
 |fn x=>exact q.elim
 |ob b c r=>exact q.elim
 |fl b g q'=>exact q.elim
 |ow ds=>obtain⟨xs,e1,e2⟩:=q;exact⟨xs,e1,e2.rm h Jt⟩
 |od kvs=>obtain⟨ys,e1,e2⟩:=q;exact⟨ys,e1,e2.rm h Jt⟩
 |dk kvs=>obtain⟨ys,e1,e2⟩:=q;exact⟨ys,e1,e2.rm h Jt⟩
def A2 {p:Addr}{t:S}(q:S.at K Hf H p t)(h:H a=some (.ins C dx gs)):p≠a:=by
 rintro rfl
 cases t with
 |im d=>exact q.elim
 |xc x=>exact q.elim
 |fn x=>exact q.elim
 |ob b c r=>exact q.elim
 |fl b g q'=>exact q.elim
 |ow ds=>obtain⟨xs,e1,_⟩:=q;rw[h] at e1;cases e1
 |od kvs=>obtain⟨ys,e1,_⟩:=q;rw[h] at e1;cases e1
 |dk kvs=>obtain⟨ys,e1,_⟩:=q;rw[h] at e1;cases e1
def SR.fzO (r:SR K H0 B Hf sd σ H){i:Nat}{c:Str}{rr:Q2}(hs:sd[i]?=some none)(hσ:σ[i]?=some (some (.ref a)))(hC:PySem.W.nsIn K mainGlobals c=some (some (.ref C)))(h:H a=some (.ins C dx gs))(rk:RepKV K Hf rr gs)(h0:H0 a=none)(hf:Hf a=none):
  SR K H0 B (upd Hf a (.ins C dx gs)) (sd.set i (some (.ob a c rr))) σ H:=by
 have sm:=Qs hf (.ins C dx gs)
 have hl:i<sd.length:=(List.getElem?_eq_some_iff.mp hs).1
 have back:∀{j:Nat}{w:S},i≠j->(sd.set i (some (S.ob a c rr)))[j]?=some (some w)->sd[j]?=some (some w):=fun {j w} n e=>by rwa[List.getElem?_set_ne n] at e
 have own:∀{j:Nat}{w:S},(sd.set i (some (S.ob a c rr)))[j]?=some (some w)->w.own=true->i≠j:=fun {j w} e o z=>by
  subst z
  rw[List.getElem?_set_self hl] at e
  cases e
  cases o
 refine⟨fun b u q=>?_,r.all,fun b hb=>?_,r.bt,by rw[List.length_set];exact r.len,fun j t e z=>?_,fun j t e o=>?_,fun j k t u p hjk e1 o1 e2 o2 e3 e4=>r.sep j k t u p hjk (back (own e1 o1) e1) o1 (back (own e2 o2) e2) o2 e3 e4⟩
 ·by_cases hb:b=a
  ·subst hb;rw[Zu] at q;rw[h];exact q
  ·rw[Zn hb] at q;exact r.sub b u q
 ·have:b≠a:=fun z=>(r.bt b hb).nn (z▸h0)
  rw[Zn this];exact r.ban b hb
 ·by_cases n:i=j
  ·subst n
   rw[List.getElem?_set_self hl] at e
   cases e
   exact⟨_,hσ,(⟨C,dx,gs,rfl,hC,Zu,rk.mono sm⟩:RepO K _ a c rr (.ref a))⟩
  ·obtain⟨v,e1,e2⟩:=r.imS j t (back n e) z
   exact⟨v,e1,e2.mono sm⟩
 ·obtain⟨p,e1,e2,e3,e4⟩:=r.ow j t (back (own e o) e) o
  exact⟨p,e1,e2,by rw[Zn (A2 e4 h)];exact e3,Ws e4 sm fun _ z=>z⟩
def SR.thO (r:SR K H0 B Hf sd σ H){i:Nat}{c:Str}{rr:Q2}(hs:sd[i]?=some (some (.ob a c rr)))(hu:∀(j:Nat) (t:S),j≠i->sd[j]?=some (some t)->t.adr≠some a/\∀x,t≠.xc x):
  σ[i]?=some (some (.ref a))/\∃C dx gs,PySem.W.nsIn K mainGlobals c=some (some (.ref C))/\H a=some (.ins C dx gs)/\RepKV K (Ge Hf a) rr gs/\SR K H0 B (Ge Hf a) (sd.set i none) σ H:=by
 obtain⟨v,e1,C,dx,gs,rfl,e2,e3,e4⟩:=r.imS i _ hs rfl
 have hl:i<sd.length:=(List.getElem?_eq_some_iff.mp hs).1
 have ne:∀{j:Nat}{w:S},(sd.set i none)[j]?=some (some w)->i≠j:=fun {j w} e z=>by
  subst z
  rw[List.getElem?_set_self hl] at e
  cases e
 have back:∀{j:Nat}{w:S},(sd.set i none)[j]?=some (some w)->sd[j]?=some (some w):=fun {j w} e=>by
  have n:=ne e
  rwa[List.getElem?_set_ne n] at e
 refine⟨e1,C,dx,gs,e2,r.sub _ _ e3,e4.rm e3 Jt,?_⟩
 refine⟨fun b u q=>r.sub b u (K2 Hf a b u q),r.all,fun b hb=>?_,r.bt,by rw[List.length_set];exact r.len,fun j t e z=>?_,fun j t e o=>?_,fun j k t u p hjk e1 o1 e2 o2 e3 e4=>r.sep j k t u p hjk (back e1) o1 (back e2) o2 e3 e4⟩
 ·by_cases z:b=a
  ·subst z;exact K3 Hf b
  ·rw[Js z];exact r.ban b hb
 ·obtain⟨v,z1,z2⟩:=r.imS j t (back e) z
  obtain⟨u1,u2⟩:=hu j t (Ne.symm (ne e)) (back e)
  exact⟨v,z1,z2.rm e3 u1 u2⟩
 ·obtain⟨p,z1,z2,z3,z4⟩:=r.ow j t (back e) o
  refine⟨p,z1,z2,?_,Zkj e3 z4⟩
  by_cases z:p=a
  ·subst z;exact K3 Hf p
  ·rw[Js z];exact z3
end
def A3:List D->M D
 |[.int a,.int b]=>.ok (.int (if b > a then b else a))
 |_=>.bad
def Zbq:List D->M D
 |[.int a,.int b,.int c]=>.ok (.int (min (min a b) c))
 |_=>.bad
section
variable {X:Cx}{E:XK}
def Zes (hc:X.calm=true):Uz X E (.builtin "max") A3:=by
 refine⟨_,Ic hc,fun Hf H xs ds Q e r q=>?_⟩
 unfold A3 at q
 split at q
 ·rename_i a b
  obtain⟨x,r1,rfl,h1,h2⟩:=reps_cons.mp r
  obtain⟨y,r2,rfl,h3,h4⟩:=reps_cons.mp h2
  rw[reps_nil.mp h4,rep_int.mp h1,rep_int.mp h3]
  exact⟨a,b,rfl,Po.ret (R:=rV X.K) e q (rep_int.mpr rfl)⟩
 ·exact q.elim
def Od (hc:X.calm=true):CallR X (.builtin "min") (fun xs H Q=>∃a b c,xs=[.int a,.int b,.int c]/\Q (.int (min (min a b) c)) H):=by
 intro pins s σ H xs us Q I r h
 obtain⟨a,b,c,rfl,q⟩:=h
 cases r with
 |cons r1 r=>
  cases r with
  |cons r2 r=>
   cases r with
   |cons r3 r=>
    cases r
    obtain⟨t,rfl⟩:=r1
    obtain⟨u,rfl⟩:=r2
    obtain⟨v,rfl⟩:=r3
    refine min_three_ints (I.ok.hd hc) fun h' tk keep=>?_
    refine⟨.int (min (min a b) c),H,I.kept keep,?_,q⟩
    by_cases h1:b<a
    ·by_cases h2:c<b
     ·simp only[h1,h2,if_true]
      exact⟨_,by rw[show min (min a b) c=c by omega]⟩
     ·simp only[h1,h2,if_true,if_false]
      exact⟨_,by rw[show min (min a b) c=b by omega]⟩
    ·by_cases h2:c<a
     ·simp only[h1,h2,if_true,if_false]
      exact⟨_,by rw[show min (min a b) c=c by omega]⟩
     ·simp only[h1,h2,if_false]
      exact⟨_,by rw[show min (min a b) c=a by omega]⟩
def Zet (hc:X.calm=true):Uz X E (.builtin "min") Zbq:=by
 refine⟨_,Od hc,fun Hf H xs ds Q e r q=>?_⟩
 unfold Zbq at q
 split at q
 ·rename_i a b c
  obtain⟨x,r1,rfl,h1,h2⟩:=reps_cons.mp r
  obtain⟨y,r2,rfl,h3,h4⟩:=reps_cons.mp h2
  obtain⟨z,r3,rfl,h5,h6⟩:=reps_cons.mp h4
  rw[reps_nil.mp h6,rep_int.mp h1,rep_int.mp h3,rep_int.mp h5]
  exact⟨a,b,c,rfl,Po.ret (R:=rV X.K) e q (rep_int.mpr rfl)⟩
 ·exact q.elim
end
def FlK (K:PySem.W.Frag)(Hf:Hp)(a:Addr)(g:D)(q:List (List Yo×D))(k:Addr):Prop:=∃C dx gs d ys,PySem.W.nsIn K mainGlobals "Floor"=some (some (.ref C))/\Hf a=some (.ins C dx gs)/\FlG K Hf g d k gs/\Hf d=some (.dT ys)/\RepKV K Hf q ys
theorem FlK.fl {K:PySem.W.Frag}{Hf:Hp}{a k:Addr}{g:D}{q:List (List Yo×D)}(h:FlK K Hf a g q k):RepS K Hf (.fl a g q) (.ref a):=by
 obtain⟨C,dx,gs,d,ys,e1,e2,e3,e4,e5⟩:=h
 exact⟨C,dx,gs,d,k,ys,rfl,e1,e2,e3,e4,e5⟩
theorem FlK.mono {K:PySem.W.Frag}{Hf Hf':Hp}(e:Same Hf Hf'){a k:Addr}{g:D}{q:List (List Yo×D)}(h:FlK K Hf a g q k):FlK K Hf' a g q k:=by
 obtain⟨C,dx,gs,d,ys,e1,e2,e3,e4,e5⟩:=h
 exact⟨C,dx,gs,d,ys,e1,e _ _ e2,e3.mono e,e _ _ e4,e5.mono e⟩
def CaAt (K:PySem.W.Frag)(Fc:List D->M D)(n:Nat)(Hf H:Hp)(k:Addr):Prop:=∃c ys,H k=some (.dT ys)/\RepKV K Hf c ys/\ys.length<=n/\∀ds ks d,K1 ds=some ks->Y3 c ks=some d->Fc ds=.ok d
theorem CaAt.mono {K:PySem.W.Frag}{Fc:List D->M D}{n:Nat}{Hf H Hf' H':Hp}{k:Addr}(e:Same Hf Hf')(he:∀o,H k=some o->H' k=some o)(h:CaAt K Fc n Hf H k):CaAt K Fc n Hf' H' k:=by
 obtain⟨c,ys,e1,e2,e3,e4⟩:=h
 exact⟨c,ys,he _ e1,e2.mono e,e3,e4⟩
def CaAt.le {K:PySem.W.Frag}{Fc:List D->M D}{n m:Nat}{Hf H:Hp}{k:Addr}(hl:n<=m)(h:CaAt K Fc n Hf H k):CaAt K Fc m Hf H k:=by
 obtain⟨c,ys,e1,e2,e3,e4⟩:=h
 exact⟨c,ys,e1,e2,by lia,e4⟩
def Zbr {d d':D}{k:Yo}(h:Zeg d=some k)(h':Zeg d'=some k):d=d':=by
 cases d<;>cases h<;>cases d'<;>cases h'<;>rfl
theorem Ln:∀{ds ds':List D}{ks:List Yo},K1 ds=some ks->K1 ds'=some ks->ds=ds'
 |[],[],_,_,_=>rfl
 |[],d'::r',ks,h,h'=>by
  cases h
  unfold K1 at h'
  split at h'<;>cases h'
 |d::r,[],ks,h,h'=>by
  cases h'
  unfold K1 at h
  split at h<;>cases h
 |d::r,d'::r',ks,h,h'=>by
  unfold K1 at h h'
  split at h
  ·rename_i k1 k2 e1 e2
   cases h
   split at h'
   ·rename_i k3 k4 e3 e4
    cases h'
    rw[Zbr e1 e3,Ln e2 e4]
   ·cases h'
  ·cases h
def Zbs {κ:Type}[DecidableEq κ]{c:List (κ×D)}{k k':κ}{d:D}(hn:Y3 c k=none):Y3 (Za7 c k d) k'=if k'=k then some d else Y3 c k':=by
 have hany:(c.any fun kv=>decide (kv.1=k))=false:=by
  cases h:(c.any fun kv=>decide (kv.1=k)) with
  |false=>rfl
  |true=>
   obtain⟨kv,h1,h2⟩:=List.any_eq_true.mp h
   have hf:(c.find? fun kv=>decide (kv.1=k))=none:=Option.map_eq_none_iff.mp hn
   exact absurd h2 (List.find?_eq_none.mp hf kv h1)
 unfold Za7
 rw[hany]
 show((c++[(k,d)]).find? fun kv=>decide (kv.1=k')).map (·.2)=_
 rw[List.find?_append]
 by_cases e:k'=k
 ·subst e
  rw[if_pos rfl,Option.map_eq_none_iff.mp hn]
  simp
 ·rw[if_neg e]
  have:([(k,d)].find? fun kv=>decide (kv.1=k'))=none:=by
   rw[List.find?_cons]
   simp[Ne.symm e]
  rw[this]
  simp[Y3]
def P9 (i:Nat)(sd:Zi):M D:=match sd[i]? with
 |some (some (.fl _ g _))=>.ok g
 |_=>.bad
section
variable {X:Cx}{E:XK}{p pos:Pos}{vn:Str}
def Lo (i:Nat){C:Addr} (oc:ObC X.K "Floor" C) (na:NoAttr X.K C "hall") (hN:X.N[i]?=some vn:=by rfl) (hv:Tg X.env.scope vn:=by trivial) (hd:(vn==("__debug__":Str))=false:=by decide)
  (hcd:(vn==("__classdict__":Str))=false:=by decide) (hb:attributeBase (.Name vn p) "hall" X.env (eval (.Name vn p) X.env)=eval (.Name vn p) X.env:=by rfl):Xo X E (.Attribute (.Name vn p) "hall" pos) (P9 i):=by
 refine⟨_,U6 (Qc hN hv hd hcd) hb,fun H0 B Hf sd σ H Q sr h=>?_⟩
 unfold P9 at h
 split at h
 ·rename_i a g q ei
  obtain⟨v,e1,C',dx,gs,d,k,ys,rfl,e2,e3,e4,e5,e6⟩:=sr.imS i _ ei rfl
  rw[oc.at_] at e2
  cases e2
  obtain⟨v,l,rv⟩:=e4.hall
  exact⟨.ref a,e1,a,C,dx,gs,v,rfl,sr.sub _ _ e3,oc.cls,na,l,Po.ret (R:=rV X.K) sr.sub h rv⟩
 ·exact h.elim
end
def Ny (F:List D->M S)(g:D)(ds:List D):M D:=Gw (F (g::ds))
def Zid (K:PySem.W.Frag)(F:List D->M S):Sp:=fun vs H Q _=>∃Hf a g q k n ds ks d v,vs=[.ref a,v]/\Same Hf H/\FlK K Hf a g q k/\Hf k=none/\CaAt K (Ny F g) n Hf H k/\n<sizeLine/\Rep K Hf (.tup ds) v/\K1 ds=some ks/\ds.length=3/\Ny F g ds=.ok d /\
 ∀v' Hf' H',GrM k Hf H Hf' H'->CaAt K (Ny F g) (n+1) Hf' H' k->Rep K Hf' d v'->Q v' H'
def Zie {m:M S}{d:D}(h:Gw m=.ok d):(match m with | .ok s=>s.toD|_=>M.bad)=.ok d:=by
 cases m with
 |ok s=>cases s<;>first|exact h|cases h
 |ex x=>cases h
 |bad=>cases h
structure HSt (K:PySem.W.Frag) (Ff:List D->M S) (a:Addr) (g:D) (q:List (List Yo×D)) (k:Addr) (n:Nat) (H0:Hp) (B:Addr->Prop) (Hf:Hp) (sd:Zi) (σ:L2.St) (H:Hp):Prop where
 sr:SR K H0 B Hf sd σ H
 s0:sd[0]?=some (some (.fl a g q))
 fl:FlK K Hf a g q k
 hk:Hf k=none
 ca:CaAt K (Ny Ff g) n Hf H k
 hn:n<sizeLine
section
variable {K:PySem.W.Frag}{Ff:List D->M S}{a k:Addr}{g:D}{q:List (List Yo×D)}{n:Nat}{H0:Hp}{B:Addr->Prop}{Hf H Hf1 H1:Hp}{sd:Zi}{σ:L2.St}{Fc:List D->M D}
def CaAt.lv (h:CaAt K Fc n Hf H k):Lv H k:=by
 obtain⟨c,ys,e1,_⟩:=h
 exact⟨_,e1,fun _ q=>by cases q⟩
theorem HSt.gr (x:HSt K Ff a g q k n H0 B Hf sd σ H)(y:Gr Hf H Hf1 H1):HSt K Ff a g q k n H0 B Hf1 sd σ H1:=
 ⟨x.sr.gr y,x.s0,x.fl.mono y.fz,y.ban k x.ca.lv x.hk,x.ca.mono y.fz fun o z=>y.all _ _ z,x.hn⟩
def Kon (K:PySem.W.Frag)(Fc:List D->M D)(k:Addr)(n:Nat)(Hf H:Hp)(d:D)(Q:VK):Prop:=∀v' Hf' H',GrM k Hf H Hf' H'->CaAt K Fc (n+1) Hf' H' k->Rep K Hf' d v'->Q v' H'
def Kon.gr {d:D}{Q:VK}(h:Kon K Fc k n Hf H d Q)(y:Gr Hf H Hf1 H1):Kon K Fc k n Hf1 H1 d Q:=fun v' Hf' H' gm ca rv=>
 h v' Hf' H' ((GrM.of_gr y).trans gm fun⟨o,e1,e2⟩=>⟨o,y.all _ _ e1,e2⟩) ca rv
end
def Zi9 (X:Cx)(Ff:List D->M S)(st:List Stmt)(f:Zi->M D):Prop:=
 ∃t:TS,PSs X st t/\∀(a k:Addr) (g:D) (q:List (List Yo×D)) (n:Nat) (H0:Hp) (B:Addr->Prop) (Hf:Hp) (sd:Zi) (σ:L2.St) (H:Hp) (D':Ends) (d:D),HSt X.K Ff a g q k n H0 B Hf sd σ H->f sd=.ok d->Kon X.K (Ny Ff g) k n Hf H d D'.rt->t D' σ H
def Wv (Ff:List D->M S)(Fa:List S->M S)(i:Nat)(fk:Zi->M D)(sd:Zi):M D:=match (sd[0]?:Option (Option S)),(sd[i]?:Option (Option S)) with
 |some (some (S.fl _ g _)),some (some o)=>if W7 o then(fk sd).bind fun kd=>(match kd with
  |.tup ds=>if ds.length=3/\(K1 ds).isSome=true then(Ny Ff g ds).bind fun pr=>Gw (Fa [o,.im pr]) else .bad
  |_=>.bad) else .bad
 |_,_=>.bad
def Zf7 (c:Zi->M Bool)(f g:Zi->M D)(sd:Zi):M D:=(c sd).bind fun b=>if b then f sd else g sd
def bind_ok {α β:Type}{m:M α}{f:α->M β}{b:β}(h:m.bind f=.ok b):∃a,m=.ok a/\f a=.ok b:=by
 cases m with
 |ok a=>exact⟨a,rfl,h⟩
 |ex x=>cases h
 |bad=>cases h
section
variable {X:Cx}{Ff:List D->M S}{pos p p1 p2 apos cpos:Pos}{e key:Expr}{x vn fl fn:Str}
def Fo {f:Zi->M D}(h:Xo X E0 e f):Zi9 X Ff [.Return (some e) pos] f:=by
 obtain⟨t,pt,qt⟩:=h
 refine⟨_,Jm (Nh pt),fun a k g q n H0 B Hf sd σ H D' d x ed kk=>?_⟩
 refine qt H0 B Hf sd σ H _ x.sr ?_
 rw[ed]
 intro v Hf1 H1 g1 rv
 exact kk v Hf1 H1 (.of_gr g1) ((x.gr g1).ca.le (by lia)) rv
def D2 {c:Expr}{xs rest:List Stmt}{kc:Zi->M Bool}{f g:Zi->M D}(hc:B0 X E0 c kc)(h:Zi9 X Ff xs f)(h2:Zi9 X Ff rest g):Zi9 X Ff (.If c xs [] pos::rest) (Zf7 kc f g):=by
 obtain⟨tc,pc,qc⟩:=hc
 obtain⟨t1,p1,q1⟩:=h
 obtain⟨t2,p2,q2⟩:=h2
 refine⟨_,Qz (Ek pc p1 P4) p2,fun a k g' q n H0 B Hf sd σ H D' d x ed kk=>?_⟩
 obtain⟨b,eb,ed⟩:=bind_ok ed
 refine qc H0 B Hf sd σ H _ x.sr ?_
 rw[eb]
 intro v Hf1 H1 gr rv
 have e:b=v:=rv
 subst e
 cases b with
 |true=>
  rw[if_pos rfl] at ed ⊢
  exact q1 a k g' q n H0 B Hf1 sd σ H1 _ d (x.gr gr) ed (kk.gr gr)
 |false=>
  rw[if_neg Bool.false_ne_true] at ed ⊢
  exact q2 a k g' q n H0 B Hf1 sd σ H1 D' d (x.gr gr) ed (kk.gr gr)
def A4 (i:Nat){Fa:List S->M S}{fk:Zi->M D}{CF fA fB:Addr}{fdA fdB:FuncData}{psA psB:List Str}{kA kB:Nat}{pl:Sem Bool} (oc:ObC X.K "Floor" CF) (hm:Meth X.K CF "faces_at" fB) (GB:FnOk X.prog X.w X.K X.mg X.base Y2 kB fB fdB psB (Zid X.K Ff)) (hrB:Room kB X.A) (bB:Binds X.K fdB psB [])
  (GA:FnOk X.prog X.w X.K X.mg X.base Y2 kA fA fdA psA (Pk X.K Fa)) (hrA:Room kA X.A) (mA:X.mg fn=some (.ref fA)) (keA:PySem.W.keepIn X.K (.ref fA)=true) (bA:Binds X.K fdA psA []) (hk:Xo X E0 key fk)
  (n0:X.N[0]?=some fl:=by rfl) (v0:Tg X.env.scope fl:=by trivial) (d0:(fl==("__debug__":Str))=false:=by decide) (c0:(fl==("__classdict__":Str))=false:=by decide)
  (ni:X.N[i]?=some vn:=by rfl) (vi:Tg X.env.scope vn:=by trivial) (di:(vn==("__debug__":Str))=false:=by decide) (ci:(vn==("__classdict__":Str))=false:=by decide)
  (hgA:Gl X fn:=by rfl) (hdA:(fn==("__debug__":Str))=false:=by decide)
  (s1:starEach [.Name vn p,.Call (.Attribute (.Name fl p1) "faces_at" apos) [key] [] cpos] X.env=(false,eval (.Name vn p) X.env)::starEach [.Call (.Attribute (.Name fl p1) "faces_at" apos) [key] [] cpos] X.env:=by rfl)
  (s2:starEach [.Call (.Attribute (.Name fl p1) "faces_at" apos) [key] [] cpos] X.env=(false,eval (.Call (.Attribute (.Name fl p1) "faces_at" apos) [key] [] cpos) X.env)::starEach [] X.env:=by rfl)
  (s3:starEach [key] X.env=(false,eval key X.env)::starEach [] X.env:=by rfl) (hpl:(backTo cpos (starEach [] X.env)).any (·.1)=false:=by rfl) (hplA:(backTo pos (starEach [.Call (.Attribute (.Name fl p1) "faces_at" apos) [key] [] cpos] X.env)).any (·.1)=false:=by rfl)
  (ht:eval (.Call (.Attribute (.Name fl p1) "faces_at" apos) [key] [] cpos) X.env=(do
   let ov <-eval (.Name fl p1) X.env
   standAt apos.atName
   let (f,first) <-holding [ov] (getMethod ov "faces_at" pl)
   callWith cpos f first (backTo cpos (starEach [key] X.env)) (backToKw cpos (keywordEach [] X.env))):=by rfl) {rpos:Pos}:
  Zi9 X Ff [.Return (some (.Call (.Name fn p2) [.Name vn p,.Call (.Attribute (.Name fl p1) "faces_at" apos) [key] [] cpos] [] pos)) rpos] (Wv Ff Fa i fk):=by
 obtain⟨tk,pk,qk⟩:=hk
 refine⟨_,Jm (Nh (Ua (dvs:=[]) (E:=E0) GA hrA hgA mA keA bA .nil Kx (Qo (Qc ni vi di ci) (Qo (Me (dvs:=[]) (E:=E0) (pl:=pl) (Qc n0 v0 d0 c0) oc.cls hm GB hrB bB .nil Kx (Qo pk X7 s3) s3 hpl ht) X7 s2) s1) hdA s1 hplA)),fun a k g q n H0 B Hf sd σ H D' d x ed kk=>?_⟩
 unfold Wv at ed
 rw[x.s0] at ed
 split at ed
 ·rename_i a' g' q' o h0 hi
  cases h0
  split at ed
  ·rename_i ho
   obtain⟨kd,ek,ed⟩:=bind_ok ed
   split at ed
   ·rename_i ds
    split at ed
    ·rename_i hd
     obtain⟨pr,e1,e2⟩:=bind_ok ed
     obtain⟨ks,eks⟩:=Option.isSome_iff_exists.mp hd.2
     obtain⟨vi',si,ri⟩:=x.sr.imS i o hi (J9 ho)
     obtain⟨v0',s0',r0⟩:=x.sr.imS 0 _ x.s0 rfl
     obtain⟨C',dx,gs,dd,k',ys,rfl,c1,c2,c3,c4,c5⟩:=id r0
     rw[oc.at_] at c1
     cases c1
     refine⟨vi',si,.ref a,s0',a,dx,gs,rfl,x.sr.sub _ _ c2,c3.m2,?_⟩
     refine qk H0 B Hf sd σ H _ x.sr ?_
     rw[ek]
     intro v Hf1 H1 g1 rv
     have y:=x.gr g1
     refine⟨Hf1,a,g,q,k,n,ds,ks,pr,v,rfl,g1.sub,y.fl,y.hk,y.ca,y.hn,rv,eks,hd.1,e1,fun v' Hf' H' gm ca' rv'=>?_⟩
     have ro:RepS X.K Hf' o vi':=(ri.mono g1.fz).mono gm.fz
     show Pk X.K Fa ([vi',v']++[]) H' D'.rt E0
     rw[List.append_nil]
     refine My (E:=E0) (ss:=[o,.im pr]) (vs:=[vi',v']) gm.sub (.cons ⟨J9 ho,ro⟩ (.cons ⟨rfl,rv'⟩ .nil)) ?_
     rw[e2]
     intro v2 Hf2 H2 g2 rv2
     have kg:=kk.gr g1
     refine kg v2 Hf2 H2 (gm.trans (.of_gr g2) fun _=>ca'.lv) (ca'.mono g2.fz fun o z=>g2.all _ _ z) rv2
    ·cases ed
   ·cases ed
  ·cases ed
 ·cases ed
end
def Zeu (K:PySem.W.Frag)(Ff:List D->M S)(F:List S->M D):Sp:=fun vs H Q _=>∃Hf ss a g q k n d,ss[0]?=some (.fl a g q)/\Same Hf H/\Zi8 K Hf ss vs/\FlK K Hf a g q k/\Hf k=none/\CaAt K (Ny Ff g) n Hf H k/\n<sizeLine/\F ss=.ok d/\Kon K (Ny Ff g) k n Hf H d Q
def Zkk (n:Nat)(f:Zi->M D)(ss:List S):M D:=if ss.length=n then f (ss.map some) else .bad
def Zmb {P:Program}{w:World}{K:PySem.W.Frag}{mg:Str->Option Value}{base:Heap}{x qual:Str}{st:Stmt}{f:Addr}{fd:FuncData}{N:List Str}{k n:Nat}{Ff:List D->M S}{fb:Zi->M D}(F:Fun K x qual st f fd)(sc:FnScope N N (Zj st))(hn:N.length=n)(hbody:∀(cdv:Value) (A:Around) (outer:List Env) (s:Shared) (H:Hp) (E:XK),Room k (A.deeper (envOfC qual (Zj st) s.heap.objs.size f cdv)) ->
   Zi9 (Kh Y2 P w K mg base N qual (Zj st) f cdv A outer s H E).nox Ff (Xj st) fb):FnOk P w K mg base Y2 (k+1) f fd N (Zeu K Ff (Zkk n fb)):=by
 refine F.ok sc (fun vs H Q E h=>?_) (fun cdv A outer s H vs Q E hr h=>?_)
 ·obtain⟨Hf,ss,a,g,q,k,n',d,h0,e,r,fl,hk,ca,hn',hF,_⟩:=h
  unfold Zkk at hF
  split at hF
  ·rename_i hl
   rw[<-Paired.length r,hl,hn]
  ·cases hF
 ·obtain⟨Hf,ss,a,g,q,k,n',d,h0,e,r,fl,hk,ca,hn',hF,kk⟩:=h
  obtain⟨t,p,qt⟩:=hbody cdv A outer s H E hr
  unfold Zkk at hF
  split at hF
  ·rename_i hl
   have sr:=Wu (N:=N) (m:=0) e r (by rw[hn,hl];rfl)
   rw[List.replicate_zero,List.append_nil] at sr
   refine⟨t,p,qt a k g q n' H _ Hf _ (L2.X6 N vs) H _ d ⟨sr,?_,fl,hk,ca,hn'⟩ hF kk⟩
   rw[List.getElem?_map,h0]
   rfl
  ·cases hF
section
variable {K:PySem.W.Frag}{H0 H0' Hf Hf' H H':Hp}{B B':Addr->Prop}{sd:Zi}{σ:L2.St}{x k:Addr}
def Zja (sd:Zi)(σ:L2.St)(x:Addr):Prop:=∀(i:Nat) (t:S),sd[i]?=some (some t)->t.own=true->σ[i]?≠some (some (.ref x))
def SR.less (r:SR K H0 B Hf sd σ H)(s:Same H0' H0)(hb:∀b,B' b->B b/\Lv H0' b):SR K H0' B' Hf sd σ H:=
 ⟨r.sub,s.trans r.all,fun b h=>r.ban b (hb b h).1,fun b h=>(hb b h).2,r.len,r.imS,fun i t e o=>by
  obtain⟨p,e1,e2,e3,e4⟩:=r.ow i t e o
  refine⟨p,e1,?_,e3,e4⟩
  cases q:H0' p with
  |none=>rfl
  |some u=>exact absurd e2 (by rw[s _ _ q];exact fun z=>nomatch z),r.sep⟩
def SR.keep (r:SR K H0 B Hf sd σ H){o:HO}(hk:H k=some o)(hl:Lv H k)(hf:Hf k=none)(off:Zja sd σ k):SR K (upd H0 k o) (fun b=>B b\/b=k) Hf sd σ H:=by
 refine⟨r.sub,fun b u q=>?_,fun b h=>?_,fun b h=>?_,r.len,r.imS,fun i t e ow=>?_,r.sep⟩
 ·by_cases e:b=k
  ·subst e;rw[Zu] at q;rw[hk];exact q
  ·rw[Zn e] at q;exact r.all b u q
 ·rcases h with h|rfl
  ·exact r.ban b h
  ·exact hf
 ·by_cases e:b=k
  ·subst e
   obtain⟨u,e1,e2⟩:=hl
   rw[hk] at e1
   cases e1
   exact⟨o,Zu,e2⟩
  ·rcases h with h|h
   ·obtain⟨u,e1,e2⟩:=r.bt b h
    exact⟨u,(Zn e).trans e1,e2⟩
   ·exact absurd h e
 ·obtain⟨p,e1,e2,e3,e4⟩:=r.ow i t e ow
  exact⟨p,e1,(Zn fun z=>off i t e ow (by rw[e1,z])).trans e2,e3,e4⟩
def SR.back {o:HO}(r:SR K (upd H0 k o) (fun b=>B b\/b=k) Hf sd σ H)(h0:H0 k=none)(bt:∀b,B b->Lv H0 b):H k=some o/\Hf k=none/\SR K H0 B Hf sd σ H:=
 ⟨r.all _ _ Zu,r.ban k (.inr rfl),r.less (fun b u q=>by rw[Zn (Z3 q h0)];exact q) fun b h=>⟨.inl h,bt b h⟩⟩
def SR.grM (r:SR K H0 B Hf sd σ H)(g:GrM x Hf H Hf' H')(h0:H0 x=none)(off:Zja sd σ x):SR K H0 B Hf' sd σ H':=
 ⟨g.sub,fun b u q=>g.all b u (Z3 q h0) (r.all b u q),fun b hb=>g.ban b (r.all.lv (r.bt b hb)) (r.ban b hb),r.bt,r.len,fun i t e z=>by
  obtain⟨v,z1,z2⟩:=r.imS i t e z
  exact⟨v,z1,z2.mono g.fz⟩,fun i t e o=>by
  obtain⟨p,e1,e2,e3,e4⟩:=r.ow i t e o
  exact⟨p,e1,e2,g.ban p (Zf3 e4) e3,Ws e4 g.fz fun u h=>g.all _ _ (fun z=>off i t e o (by rw[e1,z])) h⟩,r.sep⟩
def SR.set_none (r:SR K H0 B Hf sd σ H)(i:Nat)(v:V)(hi:sd[i]?=some none):SR K H0 B Hf sd (σ.set i (some v)) H:=by
 have ne:∀{j:Nat}{t:S},sd[j]?=some (some t)->i≠j:=fun {j t} e z=>by subst z;rw[hi] at e;cases e
 refine⟨r.sub,r.all,r.ban,r.bt,by rw[List.length_set];exact r.len,fun j t e z=>?_,fun j t e o=>?_,fun j l t u p h e1 o1 e2 o2 e3 e4=>?_⟩
 ·rw[List.getElem?_set_ne (ne e)];exact r.imS j t e z
 ·rw[List.getElem?_set_ne (ne e)];exact r.ow j t e o
 ·rw[List.getElem?_set_ne (ne e1)] at e3
  rw[List.getElem?_set_ne (ne e2)] at e4
  exact r.sep j l t u p h e1 o1 e2 o2 e3 e4
def SR.offI (r:SR K H0 B Hf sd σ H){C dx:Addr}{gs:List (Str×V)}(hx:H x=some (.ins C dx gs)):Zja sd σ x:=by
 intro i t e ow z
 obtain⟨p,e1,_,_,e4⟩:=r.ow i t e ow
 rw[z] at e1
 cases e1
 exact A2 e4 hx rfl
def SR.offD (r:SR K H0 B Hf sd σ H){ys:List (List Yo×V)}(hx:H x=some (.dT ys))(ho:∀(i:Nat) (t:S),sd[i]?=some (some t)->t.own=true->∃ds,t=.ow ds):Zja sd σ x:=by
 intro i t e ow z
 obtain⟨p,e1,_,_,e4⟩:=r.ow i t e ow
 rw[z] at e1
 cases e1
 obtain⟨ds,rfl⟩:=ho i t e ow
 obtain⟨xs,h,_⟩:=e4
 rw[hx] at h
 cases h
end
section
variable {K:PySem.W.Frag}{E:XK}{H0 Hf H:Hp}{B:Addr->Prop}{sd:Zi}{σ:L2.St}{D':Ends}
def Wc {r:M O}{sd':Zi}(h:r=.ok (.nx sd'))(k:∀σ' Hf' H',Same Hf Hf'->SR K H0 B Hf' sd' σ' H'->D'.nx σ' H'):PoS K E H0 B Hf r D':=by rw[h];exact k
def Zbt {r:M O}{d:D}(h:r=.ok (.rt (.im d)))(k:∀v Hf' H',Same Hf Hf'->Fin' H0 B Hf' H'->Rep K Hf' d v->D'.rt v H'):PoS K E H0 B Hf r D':=by rw[h];exact k
def Ra {f:Zi->M D}{d:D}{i:Nat}(h:f sd=.ok d):Z5 i f sd=.ok (.nx (sd.set i (some (.im d)))):=by
 unfold Z5
 rw[h]
 rfl
def Zbu {k:Addr}{o:HO}{Hf' H':Hp}(s:Same Hf Hf')(fin:Fin' (upd (Ge H k) k o) (fun b=>(Lv (Ge H k) b/\Hf b=none)\/b=k) Hf' H'):GrM k Hf H Hf' H':=
 ⟨s,fin.sub,fun b u hb hu=>fin.all b u (by rw[Zn hb,Js hb];exact hu),fun b hb hn=>by
  by_cases e:b=k
  ·subst e;exact fin.ban b (.inr rfl)
  ·obtain⟨o',h1,h2⟩:=hb
   exact fin.ban b (.inl ⟨⟨o',(Js e).trans h1,h2⟩,hn⟩)⟩
def none_of {H H':Hp}(s:Same H H'){x:Addr}(h:H' x=none):H x=none:=by
 cases q:H x with
 |none=>rfl
 |some u=>rw[s _ _ q] at h;cases h
def Zbv {C:Addr}{t:TA}{f:Zi->M (List D)}{F:Q2->List D->Option Q2}{l:List D}{r:Q2}{i:Nat}{c:Str}{Dn:L2.St->Hp->Prop}(qt:∀(H0:Hp) (B:Addr->Prop) (Hf:Hp) (sd:Zi) (σ:L2.St) (H:Hp) (Q:List V->Hp->Prop),SR K H0 B Hf sd σ H->Po K E0 (rA K) Hf H (f sd) Q->t σ H Q)(sr:SR K H0 B Hf sd σ H)(ef:f sd=.ok l)(hi:sd[i]?=some none)(eF:F [] l=some r)(hC:PySem.W.nsIn K mainGlobals c=some (some (.ref C)))(k:∀x σ' Hf' H',Same Hf Hf'->H x=none->SR K H0 B Hf' (sd.set i (some (.ob x c r))) σ' H'->Dn σ' H'):Zf0 C (Py K C F) [] E0 t σ H fun v H1=>Dn (σ.set i (some v)) H1:=by
 refine qt H0 B Hf sd σ H _ sr ?_
 rw[ef]
 intro vs Hf1 H1 g1 rs x dx hx hdx hne
 have hf1:Hf1 x=none:=none_of g1.sub hx
 have sm:Same H1 (upd (upd H1 dx (.own x)) x (.ins C dx [])):=(Qs hdx _).trans (Qs ((Zn hne.symm).trans hx) _)
 have g2:Gr Hf1 H1 Hf1 (upd (upd H1 dx (.own x)) x (.ins C dx [])):=⟨Same.refl _,g1.sub.trans sm,sm,fun _ _ h=>h⟩
 have h0:H0 x=none:=none_of (sr.all.trans g1.all) hx
 refine⟨Hf1,[],l,x,vs++[],r,rfl,g2.sub,hf1,⟨dx,[],Zu,.nil⟩,by rw[List.append_nil];exact rs,eF,fun Hf3 H3 gm ta=>⟨rfl,?_⟩⟩
 have hf3:Hf3 x=none:=gm.ban x (Sf Zu) hf1
 have sr2:=(sr.gr g1).gr g2
 have sr3:=sr2.grM gm h0 (sr2.offI Zu)
 obtain⟨dx',gs,e1,e2⟩:=ta
 have sr4:=sr3.set_none i (.ref x) hi
 have hl:i<σ.length:=by
  rw[<-sr.len]
  exact(List.getElem?_eq_some_iff.mp hi).1
 exact k x _ _ _ (g1.fz.trans (gm.fz.trans (Qs hf3 _))) (none_of g1.all hx) (sr4.fzO hi (List.getElem?_set_self hl) hC e1 e2 h0 hf3)
def Zf8 {C x k:Addr}{F:Q2->List D->Option Q2}{Fc:List D->M D}{m i i1 i2:Nat}{r r':Q2}{now th:D}{c:Str}{Dn:L2.St->Hp->Prop}(sr:SR K H0 B Hf sd σ H)(hs:sd[i]?=some (some (.ob x c r)))(hu:∀(j:Nat) (t:S),j≠i->sd[j]?=some (some t)->t.adr≠some x/\∀z,t≠.xc z)(hC:PySem.W.nsIn K mainGlobals c=some (some (.ref C)))(h0:H0 x=none)(eF:F r [now,th]=some r')(n1:i≠i1)(n2:i≠i2)(s1:sd[i1]?=some (some (.im now)))(s2:sd[i2]?=some (some (.im th)))(hk:Hf k=none)(ca:CaAt K Fc m Hf H k)(kon:∀Hf' H',(∀Hs,Same Hs Hf->Hs x=none->Same Hs Hf')->SR K H0 B Hf' (sd.set i (some (.ob x c r'))) σ H'->Hf' k=none->CaAt K Fc m Hf' H' k->Dn σ H'):
  Zfw (Zfz (Py K C F) [] E0 (Ep (O7 i) (Ep (O7 i1) (Ep (O7 i2) Zhb)))) {nx:=Dn,rt:=fun _ _=>False} σ H:=by
 obtain⟨z1,C',dx,gs,zc,z2,z3,sr1⟩:=sr.thO hs hu
 rw[hC] at zc
 cases zc
 obtain⟨v1,a1,a2⟩:=sr1.im i1 now (by rw[List.getElem?_set_ne n1];exact s1)
 obtain⟨v2,b1,b2⟩:=sr1.im i2 th (by rw[List.getElem?_set_ne n2];exact s2)
 refine⟨_,z1,_,a1,_,b1,Ge Hf x,r,[now,th],x,[v1,v2],r',rfl,sr1.sub,K3 Hf x,⟨dx,gs,z2,z3⟩,Reps.cons a2 (Reps.cons b2 Reps.nil),eF,fun Hf3 H3 gm ta=>?_⟩
 obtain⟨dx',gs',e1,e2⟩:=ta
 have hl:i<sd.length:=(List.getElem?_eq_some_iff.mp hs).1
 have hi:(sd.set i none)[i]?=some none:=List.getElem?_set_self hl
 have sr2:=sr1.grM gm h0 (sr1.offI z2)
 have hf3:Hf3 x=none:=gm.ban x (Sf z2) (K3 Hf x)
 have sr3:=sr2.fzO hi z1 hC e1 e2 h0 hf3
 rw[List.set_set] at sr3
 obtain⟨cc,ys,c1,c2,c3,c4⟩:=ca
 have kx:k≠x:=fun z=>by rw[z,z2] at c1;cases c1
 have hkr:Ge Hf x k=none:=(Js kx).trans hk
 have hfx:Hf x=some (.ins C dx gs):=by
  obtain⟨v,y1,C'',dx'',gs'',rfl,y2,y3,y4⟩:=sr.imS i _ hs rfl
  rw[sr.sub _ _ y3] at z2
  cases z2
  exact y3
 refine kon _ H3 (fun Hs s n=>?_) sr3 ?_ ?_
 ·have:Same Hs (Ge Hf x):=fun b u q=>by
   rw[Js (Z3 q n)]
   exact s b u q
  exact this.trans (gm.fz.trans (Qs hf3 _))
 ·rw[Zn kx]
  exact gm.ban k ⟨_,c1,fun _ q=>by cases q⟩ hkr
 ·exact⟨cc,ys,gm.all _ _ kx c1,((c2.rm hfx Jt).mono gm.fz).mono (Qs hf3 _),c3,c4⟩
end
section
variable {prog:Program}{w:World}{K:Type} [DecidableEq K] {knd:HeapKind prog w K}{A:Around}{E:Value->Shared->Prop}{s:Shared}
def Pz {d a:Addr}{xs:List (K×Addr×Value)}{k:K}{dflt:Value}{Q:Value->Shared->Prop}(hu:knd.room A)(hkey:knd.is s.heap k a)(hm:s.heap.DictOfH knd d xs)(h1:∀v,(atKey xs k).map (·.2)=some v->Q v {s with toks:=s.toks+knd.draws k})(h2:(atKey xs k).map (·.2)=none->∀h',h'.DictOfH knd d (storedH xs k a dflt)->Heap.SameBut d s.heap h'->Q dflt {s with heap:=h',toks:=s.toks+knd.draws k})(hsz:xs.length<=sizeLine):wpAny (model prog w) A (dictSetDefault d (.ref a) dflt) Q E s:=by
 obtain⟨o,es,ep,ho,hc,hd,he,his,hn⟩:=hm
 unfold dictSetDefault
 try with_reducible refine wpAny_holding ?_
 refine wpAny_bind (knd.pyHash hu hkey (wpAny_bind (wpAny_dictFind_heap (s:={s with toks:=s.toks+knd.draws k}) hu hkey ho hd he his hn ?_ ?_)))
 ·intro hno
  have hnot:k ∉ xs.map (·.1):=not_mem_keys_of_get hno
  refine wpAny_bind (wpAny_rule (wpAny_bind (wpAny_updateDictKeys (hz:=by have e:=size_of_entries he;omega) (s:={s with toks:=s.toks+knd.draws k}) ho hd (wpAny_pure (h2 (by rw[atKey_none_of_get hno];rfl) _ ⟨_,_,ep+1,Heap.get?_update_self _ ho (Obj.isFreed_of_dict (Obj.data_mapDictKeys hd _)),
   hc.mapDictKeys _,Obj.data_mapDictKeys hd _,?_,?_,?_⟩ (Heap.SameBut.update ..))))))
  ·rw[storedH_new (atKey_none_of_get hno)]
   simp[he,entryOfKey]
  ·rw[storedH_new (atKey_none_of_get hno)]
   intro x hx
   rcases List.mem_append.mp hx with hx|hx
   ·exact knd.keeps (his x hx) ho hd (Heap.SameBut.update ..)
   ·simp only[List.mem_singleton] at hx
    subst hx
    exact knd.keeps hkey ho hd (Heap.SameBut.update ..)
  ·rw[storedH_new (atKey_none_of_get hno)]
   rw[List.map_append,List.nodup_append]
   refine⟨hn,by simp,?_⟩
   intro x hx y hy
   simp only[List.map_cons,List.map_nil,List.mem_singleton] at hy
   subst hy
   exact fun e=>hnot (e▸hx)
 ·intro j p hj
  refine wpAny_bind (wpAny_dictEntries (s:={s with toks:=s.toks+knd.draws k}) ho hd ?_)
  rw[PySem.entry_at he j,hj]
  exact wpAny_bind (wpAny_rule (wpAny_pure (h1 _ (by rw[atKey_of_get hn hj];rfl))))
def Gz {d a:Addr}{k:K}(hd:(d==sysModules)=false)(dflt:Value):
  MeetsIn prog w (Builtin.«dict.setdefault» ⟨[.ref d,.ref a,dflt],[]⟩) (fun A R s=>knd.room A.in1/\∃xs,knd.is s.heap k a/\s.heap.DictOfH knd d xs/\xs.length<=sizeLine /\
   (∀v,(atKey xs k).map (·.2)=some v->R (.ok (.ret v)) {s with toks:=s.toks+knd.draws k}) /\
   ((atKey xs k).map (·.2)=none->∀h',h'.DictOfH knd d (storedH xs k a dflt)->Heap.SameBut d s.heap h'->R (.ok (.ret dflt)) {s with heap:=h',toks:=s.toks+knd.draws k})):=
 .of_wp fun A R s ⟨hu,xs,hkey,hm,hz,h1,h2⟩=>by
  unfold Builtin.«dict.setdefault»
  refine wpAny_bind ?_
  unfold Builtin.Dict.keyAndDefault
  refine wpAny_bind (wpAny_notOrdered_dict hm.typeIs ?_)
  show wpAny _ _ (pure (d,Value.ref a,some dflt)) _ _ s
  refine wpAny_pure ?_
  show wpAny _ _ (if(d==sysModules)=true then _ else(dictSetDefault d (.ref a) dflt>>=_)) _ _ s
  rw[if_neg (by rw[hd];exact Bool.false_ne_true)]
  exact wpAny_bind (Pz hu hkey hm (fun v hv=>wpAny_pure ⟨v,rfl,h1 v hv⟩) (fun hn h' hm' hs'=>wpAny_pure ⟨dflt,rfl,h2 hn h' hm' hs'⟩) hz)
end
section
variable {X:Cx}{pins:List (Addr×Obj)}{σ:L2.St}{H:Hp}{s:Shared}{a b:Addr}{d:V}{r:Value}{A:Around}{E:Value->Shared->Prop}{kvs:List (List Yo×V)}{k:List Yo}
def Zbw {Q:Value->Shared->Prop}(hu:A.units+1<cLine)(I:Inv X pins σ H s)(e:H a=some (.dT kvs))(eb:H b=some (.tup (k.map kV)))(l:kvs.length<sizeLine)(rd:RelV d r)(h1:∀v w' s',Xy kvs k=some v->Inv X pins σ H s'->RelV v w'->Q w' s')(h2:Xy kvs k=none->∀s',Inv X pins σ (upd H a (.dT (Jx kvs k d))) s'->Q r s'):
  wpAny (model X.prog X.w) A (call (.builtin "dict.setdefault") [.ref a,.ref b,r]) Q E s:=by
 obtain⟨z,hd,xs,rel,dd⟩:=Zf2 I.hok e
 have hz:xs.length<=sizeLine:=by rw[<-Paired.length rel];exact z
 have rv:=rel.val k
 refine call_meetsIn PySem.F.slot_dict_setdefault dd.typeIs PySem.F.entry_dict_setdefault (PySem.F.args_dict_setdefault_3 _ _ _) (Gz (k:=k) hd r) ⟨tupleKind_room_in1 hu,xs,Nk I.hok eb,dd,hz,fun v hv=>?_,fun hn h' dd' hs=>?_⟩
 ·rw[hv] at rv
  cases q:Xy kvs k with
  |none=>rw[q] at rv;exact rv.elim
  |some v0=>rw[q] at rv;exact h1 v0 v _ q (I.tok _) rv
 ·rw[hn] at rv
  cases q:Xy kvs k with
  |some v0=>rw[q] at rv;exact rv.elim
  |none=>
   refine h2 q _ ?_
   have hl:(Jx kvs k d).length<=sizeLine:=by have:=Va kvs k d;omega
   obtain⟨o,es,ep,hq,g2,g3,g4,_,g5⟩:=dd'
   refine Ml I (by rw[e];exact True.intro) hs ⟨o,hq⟩ ⟨hl,hd,_,(rel.put k eb rd).keeps fun c ys ec=>?_,o,es,ep,hq,g2,g3,g4,g5⟩
   rw[Zn (Zfv ec e (fun z=>nomatch z))]
   exact ec
end
def Zif (td ty tx:TE):TE:=fun σ H Q=>td σ H fun x H1=>∃a,x=.ref a/\Zl1 H1 a/\ty σ H1 fun y H2=>tx σ H2 fun z H3=>∃kvs k b,y=.ref b/\H3 a=some (.dT kvs)/\H3 b=some (.tup (k.map kV))/\kvs.length<sizeLine /\
 (∀v,Xy kvs k=some v->Q v H3)/\(Xy kvs k=none->Q z (upd H3 a (.dT (Jx kvs k z))))
def Zbx {X:Cx}{o e f:Expr}{apos cpos:Pos}{td ty tx:TE}(hu:X.A.units+1<cLine)(ho:PE X o td)(he:PE X e ty)(hf:PE X f tx) (m:M2 X o "setdefault" apos e f cpos):PE X (.Call (.Attribute o "setdefault" apos) [e,f] [] cpos) (Zif td ty tx):=by
 intro pins s σ H Q I h
 refine wpAny_Call_method m.base m.few m.line PySem.F.plainAttrs_dict PySem.F.slot_dict_setdefault PySem.F.type_dict_setdefault (Yx (ho pins s σ H _ I h) fun u s1 ⟨x,H1,I1,rx,a,ex,d,q1⟩=>?_)
 subst ex
 obtain rfl:u=Value.ref a:=rx
 obtain⟨t1,t2,_⟩:=Zaq I1 d
 refine⟨t1,t2,?_⟩
 rw[m.trees]
 refine Calls.callWith_builtin rfl (Calls.evalArgs_plain (Calls.spliced_cons (Yx (he pins s1 σ H1 _ I1 q1) fun iv s2 ⟨y,H2,I2,ry,q2⟩=>
  Calls.spliced_cons (Yx (hf pins s2 σ H2 _ I2 q2) fun fv s3 ⟨z,H3,I3,rz,kvs,k,b,ey,ea,eb,hl,h1,h2⟩=>Calls.spliced_nil ?_))))
 subst ey
 cases (show iv=Value.ref b from ry)
 exact Zbw hu I3 ea eb hl rz (fun v w' s4 ev I4 rw'=>⟨v,H3,I4,rw',h1 v ev⟩) fun ev s4 I4=>⟨z,_,I4,rz,h2 ev⟩
abbrev M1:=List (List Yo×List D)
def U3 (ks:List Yo)(p:D):M1->M1
 |[]=>[(ks,[p])]
 |(k,l)::r=>if k=ks then(k,l++[p])::r else(k,l)::U3 ks p r
def OwnP (K:PySem.W.Frag)(H0 Hf H:Hp)(p:List Yo×List D)(q:List Yo×V):Prop:=p.1=q.1/\∃a xs,q.2=.ref a/\H a=some (.lst xs)/\Hf a=none/\H0 a=none/\Reps K Hf p.2 xs
def OwnL (K:PySem.W.Frag)(H0 Hf H:Hp)(acc:M1)(ys:List (List Yo×V)):Prop:=Paired (OwnP K H0 Hf H) acc ys/\(ys.map (·.2)).Nodup
section
variable {K:PySem.W.Frag}{H0 Hf H Hf' H':Hp}{acc:M1}{ys:List (List Yo×V)}{ks:List Yo}
theorem Sg {α β:Type}{F G:α->β->Prop}:∀{l₁:List α}{l₂:List β},Paired F l₁ l₂->(∀a b,F a b->b∈l₂->G a b)->Paired G l₁ l₂
 |_,_,.nil,_=>.nil
 |_,_,.cons h t,f=>.cons (f _ _ h (List.mem_cons_self ..)) (Sg t fun a b x y=>f a b x (List.mem_cons_of_mem _ y))
theorem Ko {α β:Type}{F:α->β->Prop}:∀{l₁:List α}{l₂:List β},Paired F l₁ l₂->∀{b},b∈l₂->∃a,F a b
 |_,_,.nil,b,h=>by cases h
 |_,_,.cons h t,b,hb=>by
  rcases List.mem_cons.mp hb with rfl|hb
  ·exact⟨_,h⟩
  ·exact Ko t hb
def OwnP.move {p:List Yo×List D}{q:List Yo×V}(h:OwnP K H0 Hf H p q)(e:Same Hf Hf')(he:∀a xs,q.2=.ref a->H a=some (.lst xs)->H' a=some (.lst xs))(hb:∀a,Lv H a->Hf a=none->Hf' a=none):OwnP K H0 Hf' H' p q:=by
 obtain⟨e1,a,xs,e2,e3,e4,e5,e6⟩:=h
 exact⟨e1,a,xs,e2,he a xs e2 e3,hb a (Lv.lst e3) e4,e5,e6.mono e⟩
def OwnL.gr (h:OwnL K H0 Hf H acc ys)(g:Gr Hf H Hf' H'):OwnL K H0 Hf' H' acc ys:=
 ⟨Paired.mapP h.1 fun _ _ q=>q.move g.fz (fun a xs _ z=>g.all _ _ z) g.ban,h.2⟩
def Zby {v:V}(h:Xy ys ks=some v):v∈ys.map (·.2):=by
 obtain⟨kv,h1,h2⟩:=Option.map_eq_some_iff.mp h
 rw[<-h2]
 exact List.mem_map_of_mem (List.mem_of_find?_eq_some h1)
def Lp {p:List Yo×V}:Xy (p::ys) ks=if p.1=ks then some p.2 else Xy ys ks:=by
 unfold Xy
 rw[List.find?_cons]
 by_cases e:p.1=ks
 ·simp[e]
 ·simp[e]
def OwnL.there (h:OwnL K H0 Hf H acc ys){v:V}(hv:Xy ys ks=some v):∃a xs,v=.ref a/\H a=some (.lst xs)/\Hf a=none/\H0 a=none/\(∃p∈acc,xs.length=p.2.length)/\∀(p:D) (y:V),Rep K Hf p y->Paired (OwnP K H0 Hf (upd H a (.lst (xs++[y])))) (U3 ks p acc) ys:=by
 obtain⟨h,n⟩:=h
 induction h with
 |nil=>cases hv
 | @cons x q l l' hp ht ih=>
  rw[List.map_cons,List.nodup_cons] at n
  rw[Lp] at hv
  obtain⟨x1,x2⟩:=x
  obtain⟨e1,a,xs,e2,e3,e4,e5,e6⟩:=id hp
  have e1:x1=q.1:=e1
  by_cases e:q.1=ks
  ·rw[if_pos e] at hv
   cases hv
   refine⟨a,xs,e2,e3,e4,e5,⟨_,List.mem_cons_self ..,e6.length.symm⟩,fun p y ry=>?_⟩
   unfold U3
   rw[if_pos (e1.trans e)]
   refine .cons ⟨e1,a,xs++[y],e2,Zu,e4,e5,e6.append (Reps.cons ry Reps.nil)⟩ ?_
   refine Sg ht fun z z' hz hm=>?_
   refine hz.move (Same.refl _) (fun b zs e7 e8=>?_) fun _ _ z=>z
   rw[Zn]
   ·exact e8
   ·rintro rfl
    exact n.1 (by rw[e2,<-e7];exact List.mem_map_of_mem hm)
  ·rw[if_neg e] at hv
   obtain⟨a',xs',f1,f2,f3,f4,⟨pp,g1,g2⟩,f5⟩:=ih hv n.2
   refine⟨a',xs',f1,f2,f3,f4,⟨pp,List.mem_cons_of_mem _ g1,g2⟩,fun p y ry=>?_⟩
   unfold U3
   rw[if_neg (fun z=>e (e1.symm.trans z))]
   refine .cons (hp.move (Same.refl _) (fun b zs e7 e8=>?_) fun _ _ z=>z) (f5 p y ry)
   rw[Zn]
   ·exact e8
   ·rintro rfl
    exact n.1 (by rw[e7,<-f1];exact Zby hv)
def OwnL.new (h:OwnL K H0 Hf H acc ys)(hv:Xy ys ks=none){p:D}{y:V}{a d:Addr}{u:List (List Yo×V)}{o:HO}(hd:H d=some (.dT u))(ha:H a=none)(h0:H0 a=none)(hf:Hf a=none)(ry:Rep K Hf p y):
  OwnL K H0 Hf (upd (upd H d o) a (.lst [y])) (U3 ks p acc) (Jx ys ks (.ref a)):=by
 have ep:Jx ys ks (V.ref a)=ys++[(ks,.ref a)]:=by
  unfold Jx
  rw[if_neg]
  intro hany
  obtain⟨kv,h1,h2⟩:=List.any_eq_true.mp hany
  exact absurd h2 (List.find?_eq_none.mp (Option.map_eq_none_iff.mp hv) kv h1)
 have ne:∀{x:List Yo×List D}{q:List Yo×V},OwnP K H0 Hf H x q->OwnP K H0 Hf (upd (upd H d o) a (.lst [y])) x q:=fun {x q} hp=>hp.move (Same.refl _) (fun b zs e7 e8=>by
  have n1:b≠a:=fun z=>by rw[z,ha] at e8;cases e8
  have n2:b≠d:=fun z=>by rw[z,hd] at e8;cases e8
  rw[Zn n1,Zn n2];exact e8) fun _ _ z=>z
 rw[ep]
 obtain⟨h,n⟩:=h
 refine⟨?_,?_⟩
 ·clear n ep
  induction h with
  |nil=>exact .cons ⟨rfl,a,[y],rfl,Zu,hf,h0,Reps.cons ry Reps.nil⟩ .nil
  | @cons x q l l' hp ht ih=>
   rw[Lp] at hv
   obtain⟨x1,x2⟩:=x
   have e1:x1=q.1:=hp.1
   by_cases e:q.1=ks
   ·rw[if_pos e] at hv;cases hv
   ·rw[if_neg e] at hv
    unfold U3
    rw[if_neg (fun z=>e (e1.symm.trans z))]
    exact .cons (ne hp) (ih hv)
 ·rw[List.map_append,List.nodup_append]
  refine⟨n,by simp,fun v hv' w hw=>?_⟩
  simp only[List.map_cons,List.map_nil,List.mem_singleton] at hw
  subst hw
  rintro rfl
  obtain⟨q,hq,eq⟩:=List.mem_map.mp hv'
  obtain⟨x,hx⟩:=Ko h hq
  obtain⟨_,b,xs,e2,e3,_⟩:=hx
  rw[eq] at e2
  cases e2
  rw[ha] at e3
  cases e3
theorem Nz {p:D}{n:Nat}:∀{acc:M1},(∀x∈acc,x.2.length<=n)->∀x∈U3 ks p acc,x.2.length<=n+1
 |[],_,x,hx=>by
  unfold U3 at hx
  rw[List.mem_singleton] at hx
  rw[hx]
  simp
 |(k,l)::r,h,x,hx=>by
  unfold U3 at hx
  split at hx
  ·rcases List.mem_cons.mp hx with rfl|hx
   ·have:=h _ (List.mem_cons_self ..)
    simp only[List.length_append,List.length_cons,List.length_nil] at this ⊢
    lia
   ·exact Nat.le_succ_of_le (h x (List.mem_cons_of_mem _ hx))
  ·rcases List.mem_cons.mp hx with rfl|hx
   ·exact Nat.le_succ_of_le (h _ (List.mem_cons_self ..))
   ·exact Nz (fun y hy=>h y (List.mem_cons_of_mem _ hy)) x hx
theorem Sh {p:D}:∀{acc:M1},(U3 ks p acc).length<=acc.length+1
 |[]=>Nat.le_refl _
 |(k,l)::r=>by
  unfold U3
  split
  ·simp
  ·have:=Sh (p:=p) (acc:=r)
   simp only[List.length_cons]
   lia
open Classical in
noncomputable def Zdi (Hf H:Hp)(S:Addr->Prop):Hp:=fun b=>match Hf b with
 |some u=>some u
 |none=>if S b then H b else none
def Si {S:Addr->Prop}:Same Hf (Zdi Hf H S):=fun b u q=>by unfold Zdi;rw[q]
def Zev {S:Addr->Prop}(e:Same Hf H):Same (Zdi Hf H S) H:=fun b u q=>by
 unfold Zdi at q
 split at q
 ·rename_i u' eu;cases q;exact e _ _ eu
 ·split at q
  ·exact q
  ·cases q
def D3 {S:Addr->Prop}(e:Same Hf H){b:Addr}(h:S b){o:HO}(ho:H b=some o):Zdi Hf H S b=some o:=by
 unfold Zdi
 split
 ·rename_i u' eu;rw[<-ho];exact(e _ _ eu).symm
 ·rw[if_pos h];exact ho
def A5 {S:Addr->Prop}{b:Addr}(h:¬S b)(hf:Hf b=none):Zdi Hf H S b=none:=by
 unfold Zdi
 rw[hf]
 exact if_neg h
variable {sd:Zi}{σ:L2.St}{B:Addr->Prop}
def SR.mut (r:SR K H0 B Hf sd σ H){b:Addr}{o:HO}(h0:H0 b=none)(hf:Hf b=none)(off:Zja sd σ b):SR K H0 B Hf sd σ (upd H b o):=
 ⟨fun c u q=>by rw[Zn (Z3 q hf)];exact r.sub c u q,fun c u q=>by rw[Zn (Z3 q h0)];exact r.all c u q,r.ban,r.bt,r.len,r.imS,fun i t e ow=>by
  obtain⟨p,e1,e2,e3,e4⟩:=r.ow i t e ow
  refine⟨p,e1,e2,e3,Ws e4 (Same.refl _) fun u h=>?_⟩
  rw[Zn]
  ·exact h
  ·rintro rfl
   exact off i t e ow e1,r.sep⟩
def Gr.new (e:Same Hf H){b:Addr}(h:H b=none)(o:HO):Gr Hf H Hf (upd H b o):=⟨Same.refl _,e.trans (Qs h o),Qs h o,fun _ _ z=>z⟩
end
def qD (q:M1):List (List Yo×D):=q.map fun p=>(p.1,D.lst p.2)
def Zkl (K:PySem.W.Frag)(CF:Addr)(Fb:List D->Option M1):Sp:=fun vs H Q _=>∃Hf x dx hall ppl q vh vp,vs=[.ref x,vh,vp]/\Same Hf H/\Hf x=none/\H x=some (.ins CF dx [])/\Rep K Hf hall vh/\Rep K Hf (.lst ppl) vp/\ppl.length<=1000000/\Fb ppl=some q /\
 ∀Hf' H' k,Same Hf Hf'->Same Hf' H'->(∀b u,b≠x->H b=some u->H' b=some u)->(∀b,Lv H b->Hf b=none->b≠x->Hf' b=none)->FlK K Hf' x hall (qD q) k->Hf' k=none->H' k=some (.dT [])->H k=none->Q .non H'
section
variable {X:Cx}{E:XK}{p p2 pos:Pos}{es:List Expr}{k:Nat}
def D4 (fs:Zi->M (List D))(sd:Zi):M (List D):=(fs sd).bind fun ds=>match ds with
 |[.tup xs,.tup ys]=>.ok (Aq xs ys)
 |_=>.bad
def Oe {l m:Expr}{fs:Zi->M (List D)} (hg:Gl X "zip") (hm:X.mg "zip"=none) (h:Bz X E [l,m] fs) (hs:starEach [l,m] X.env=[(false,eval l X.env),(false,eval m X.env)]:=by rfl) (hs2:starEach [m] X.env=[(false,eval m X.env)]:=by rfl):
  Zhx X E (.Tuple es k p2) (.Call (.Name "zip" p) [l,m] [] pos) (D4 fs):=by
 obtain⟨t,pt,q⟩:=h
 refine⟨_,E9 true true hg hm pt hs hs2,fun H0 B Hf sd σ H R sr h=>?_⟩
 refine q H0 B Hf sd σ H _ sr (Po.bind h fun ds vs Hf1 H1 _ g1 rs h1=>?_)
 split at h1
 ·rename_i xs ys
  obtain⟨v,w',rfl,rv,rw'⟩:=Zaw rs
  obtain⟨a,us,rfl,ha,hr⟩:=Qm rv
  obtain⟨b,ws,rfl,hb,hr'⟩:=Qm rw'
  exact⟨a,b,rfl,⟨us,Ja (t:=true) g1.sub ha⟩,⟨ws,Ja (t:=true) g1.sub hb⟩,Po.ret (R:=Pt X.K) g1.sub h1 (Zbe (t1:=true) (t2:=true) ha hr hb hr')⟩
 ·exact h1.elim
def Of {l m:Expr}{fs:Zi->M (List D)} (hg:Gl X "zip") (hm:X.mg "zip"=none) (h:Bz X E [l,m] fs) (hs:starEach [l,m] X.env=[(false,eval l X.env),(false,eval m X.env)]:=by rfl) (hs2:starEach [m] X.env=[(false,eval m X.env)]:=by rfl):
  Zhx X E (.Tuple es k p2) (.Call (.Name "zip" p) [l,m] [] pos) (Zef fs):=by
 obtain⟨t,pt,q⟩:=h
 refine⟨_,E9 false false hg hm pt hs hs2,fun H0 B Hf sd σ H R sr h=>?_⟩
 refine q H0 B Hf sd σ H _ sr (Po.bind h fun ds vs Hf1 H1 _ g1 rs h1=>?_)
 split at h1
 ·rename_i xs ys
  obtain⟨v,w',rfl,rv,rw'⟩:=Zaw rs
  obtain⟨a,us,rfl,ha,hr⟩:=rep_lst.mp rv
  obtain⟨b,ws,rfl,hb,hr'⟩:=rep_lst.mp rw'
  exact⟨a,b,rfl,⟨us,Ja (t:=false) g1.sub ha⟩,⟨ws,Ja (t:=false) g1.sub hb⟩,Po.ret (R:=Pt X.K) g1.sub h1 (Zbe (t1:=false) (t2:=false) ha hr hb hr')⟩
 ·exact h1.elim
end
structure Dm (K:PySem.W.Frag) (mg:Str->Option Value) (x:Str) (st:Stmt):Prop where
 ex:∃f fd,Fun K x x st f fd/\mg x=some (.ref f)
structure Mm (K:PySem.W.Frag) (C:Addr) (m q:Str) (st:Stmt):Prop where
 ex:∃f fd,Meth K C m f/\Fun K m q st f fd
structure Cl (P:Program) (w:World) (K:PySem.W.Frag) (mg:Str->Option Value) (base:Heap) (n:Nat) (x:Str) (ps:List Str) (F:List D->M S):Prop where
 ex:∃f fd,FnOk P w K mg base Y2 n f fd ps (B1 K F)/\Binds K fd ps []/\PySem.W.keepIn K (.ref f)=true/\mg x=some (.ref f)
section
variable {P:Program}{w:World}{K:PySem.W.Frag}{mg:Str->Option Value}{base:Heap}
def dm_mk {h:Heap}{x:Str}{st:Stmt}{f:Addr}{oc:Value}{od an:Option Addr}{sl:Array (Option Value)}{kV dc pm cd ct:Value}(X:K.In h)(G:h.Ns mainGlobals mg)(a:PySem.W.nsIn K mainGlobals x=some (some (.ref f)))(l:K.lookup f=some ⟨oc,od,.func (PySem.W.fnOf x x (Vb st) (Xj st) (Zj st) .none kV dc pm an cd ct),sl⟩)(c:PySem.W.codeIn K cd x=true)(k:PySem.W.keepIn K (.ref f)=true):Dm K mg x st:=⟨_,_,Zat l c k,PySem.W.mg_of X G a⟩
def mm_mk {C:Addr}{m q:Str}{st:Stmt}{f:Addr}{oc:Value}{od an:Option Addr}{sl:Array (Option Value)}{kV dc pm cd ct:Value}(a:PySem.W.findIn K (.ref C) m=some (some (.ref f)))(n:PySem.W.isFn K (.ref f)=true)(l:K.lookup f=some ⟨oc,od,.func (PySem.W.fnOf m q (Vb st) (Xj st) (Zj st) .none kV dc pm an cd ct),sl⟩)(c:PySem.W.codeIn K cd q=true)(k:PySem.W.keepIn K (.ref f)=true):Mm K C m q st:=⟨_,_,⟨a,n,k⟩,Zat l c k⟩
def Dm.cl {x:Str}{st:Stmt}{n:Nat}{ps:List Str}{F:List D->M S}(d:Dm K mg x st)(hb:∀(kV doc pm:Value) (an:Option Addr) (cdv ct:Value) (us:List Value),us.length=ps.length->bindArgs (PySem.W.fnOf x x (Vb st) (Xj st) (Zj st) .none kV doc pm an cdv ct) ⟨us,[]⟩=pure (ps.zip us))(h:∀f fd,Fun K x x st f fd->FnOk P w K mg base Y2 n f fd ps (B1 K F)):Cl P w K mg base n x ps F:=
 let ⟨f,fd,F,m⟩:=d.ex
 ⟨f,fd,h f fd F,F.binds hb,F.kp,m⟩
end
def Zw {X:Cx}{E:XK}{pos:Pos}{k:Nat}{ps:List Str}{F:List D->M S}{x:Str}{p:Pos}{a:Expr}{es:List Expr}{fs:Zi->M (List D)}(c:Cl X.prog X.w X.K X.mg X.base k x ps F)(hr:Room k X.A)(ha:Bz X E (a::es) fs)(hg:Gl X x:=by rfl) (hdb:(x==("__debug__":Str))=false:=by decide) (he:starEach (a::es) X.env=(false,eval a X.env)::starEach es X.env:=by rfl) (hpl:(backTo pos (starEach es X.env)).any (·.1)=false:=by rfl):
  Xo X E (.Call (.Name x p) (a::es) [] pos) (Zv F fs):=
 let ⟨_,_,G,b,k,m⟩:=c.ex
 Jd G hr m k b ha hg hdb he hpl
def Zew (its:List Value):slicePick its.toArray none none (some (-1))=its.reverse.toArray:=by
 have hb:sliceBounds none none (some (-1)) its.toArray.size=((its.toArray.size:Int)-1,-1,-1):=by
  simp[sliceBounds]
 have hr:sliceRange ((its.toArray.size:Int)-1) (-1) (-1)=(List.range its.toArray.size).map fun(k:Nat)=>(((its.toArray.size:Int)-1)+(-1)*(k:Int)).toNat:=by
  unfold sliceRange
  have:((if(-1:Int) > 0 then(if((its.toArray.size:Int)-1) < -1 then(-1-((its.toArray.size:Int)-1) + -1-1) / -1 else 0) else(if((its.toArray.size:Int)-1) > -1 then(((its.toArray.size:Int)-1) - -1 - -1-1)/(- -1) else 0)):Int).toNat=its.toArray.size:=by
   rw[if_neg (by decide)]
   split
   ·rw[show(- -1:Int)=1 from rfl,Int.ediv_one]
    omega
   ·rename_i h
    have:its.toArray.size=0:=by omega
    rw[this]
    rfl
  dsimp only
  rw[this]
 unfold slicePick
 rw[hb]
 dsimp only
 rw[hr,List.filterMap_map]
 have:=Zbc its.toArray
 simp only[List.toList_toArray] at this
 rw[<-this]
 congr 1
 refine R6 fun m hm=>?_
 show its.toArray[(((its.toArray.size:Int)-1)+(-1)*(m:Int)).toNat]?=_
 rw[Int.mul_comm (-1) (m:Int)]
section
variable {X:Cx}{E:XK}{pos p2 p3 p4:Pos}{e:Expr}
def Zkm (K:PySem.W.Frag)(te:TE):TE:=fun σ H Q=>te σ H fun x H1=>∃a xs,x=.ref a/\SqL K H1 a xs/\∀p,H1 p=none->Q (.ref p) (upd H1 p (.lst xs.reverse))
def Zex {te:TE}{j}(he:PE X e te):PE X (.Subscript e (.Slice none none (some (.UnaryOp .USub (.Constant (.int 1) j p3) p4)) p2) pos) (Zkm X.K te):=by
 intro pins s σ H Q I h
 refine Subscript_ (Yx (he pins s σ H _ I h) fun v s1 ⟨x,H1,I1,r1,q1⟩=>?_)
 refine wpAny_Slice ?_
 rw[evalPart_none]
 refine wpAny_pure (wpAny_pure ?_)
 rw[evalPart_some]
 refine Yx (Zac (Zad (X:=X)) (O8 (X:=X)) pins s1 σ H1 (fun y H2=>y=.int (-1)/\H2=H1) I1 ⟨1,rfl,rfl,rfl⟩) fun vst s2 ⟨y,H2,I2,ry,ey,eH⟩=>?_
 subst ey eH
 obtain⟨tk,rfl⟩:=(show ∃t,vst=Value.int (-1) t from ry)
 have I4:Inv X pins σ H2 {s2 with heap:=s2.heap.push {cls:=.type "slice", data:=.fields #[.none,.none,.int (-1) tk]}}:=I2.kept (t':=s2.toks) fun b ob q=>Heap.get?_push_of_some _ q
 obtain⟨a,xs,rfl,hx,q⟩:=q1
 cases r1
 obtain⟨its,r,ht,hz⟩:=I4.list hx
 have hlen:=r.length
 show wpAny (model X.prog X.w) X.A (subscriptTail e _ _ (.ref s2.heap.objs.size)) (EP X pins σ Q) X.xe {s2 with heap:=s2.heap.push {cls:=.type "slice", data:=.fields #[.none,.none,.int (-1) tk]}}
 refine tail_any (ops:=[.ref a,.ref s2.heap.objs.size]) ht.isList.typeIs slot_list_getitem.lookup (wpAny_getItem_list_slice ht.isList (Heap.IsSliceOf.new ..) .none .none (.int (-1) tk) (by decide) ?_ (by rw[List.size_toArray]<;>omega)) (by with_unfolding_all rfl)
 rw[Zew]
 refine⟨.ref _,_,I4.laid (t':=s2.toks) (o:=.lst xs.reverse) (fun b ob q=>Heap.get?_push_of_some _ q) (Nat.le_refl _) ?_,rfl,q _ (I4.hok.fresh (Nat.le_refl _))⟩
 exact⟨by rw[List.length_reverse];exact hz,_,0,Vals.rev r,Heap.get?_push_size _ rfl⟩
def Zbz (f:Zi->M D)(sd:Zi):M D:=(f sd).bind fun d=>match d with
 |.lst ds=>.ok (.lst ds.reverse)
 |_=>.bad
def Zey {f:Zi->M D}{j}(h:Xo X E e f):Xo X E (.Subscript e (.Slice none none (some (.UnaryOp .USub (.Constant (.int 1) j p3) p4)) p2) pos) (Zbz f):=by
 obtain⟨t,p,q⟩:=h
 refine⟨_,Zex p,fun H0 B Hf sd σ H Q sr h=>?_⟩
 refine q H0 B Hf sd σ H _ sr (Po.bind h fun d v Hf1 H1 _ g1 rv h1=>?_)
 split at h1
 ·obtain⟨a,xs,rfl,ha,hr⟩:=rep_lst.mp rv
  exact⟨a,xs,rfl,g1.sub.seq ha,fun p hp=>h1 _ _ _ (Gr.alloc g1.sub hp _) (Gr.lst g1.sub hp (Reps.rev hr))⟩
 ·exact h1.elim
end
end DL
namespace Law
open PySem L2 DL
def top (i:Nat):Stmt:=PySem.Challenge.pw_selfsight_k19_whole_back_again.main.body.getD i (.Pass ⟨0,0,0,0⟩)
abbrev Jy:Stmt:=top 1
abbrev Sj:Stmt:=top 2
abbrev M3:Stmt:=top 3
abbrev W8:Stmt:=top 5
abbrev Ul:Stmt:=top 6
abbrev K5:Stmt:=top 7
abbrev M4:Stmt:=top 8
abbrev Jj:Stmt:=top 9
abbrev Wd:Stmt:=top 13
abbrev Kb:Stmt:=top 14
abbrev N0:Stmt:=top 15
abbrev K6:Stmt:=top 16
abbrev Um:Stmt:=top 17
abbrev W9:Stmt:=top 18
abbrev Vu:Stmt:=top 19
abbrev We:Stmt:=top 20
abbrev Q7:Stmt:=top 21
abbrev D5:Stmt:=top 22
abbrev Sk:Stmt:=top 24
abbrev Wf:Stmt:=top 25
abbrev Ga:Stmt:=top 26
abbrev X0:Stmt:=top 27
abbrev M5:Stmt:=top 28
abbrev Sl:Stmt:=top 29
abbrev Sm:Stmt:=top 30
abbrev Sn:Stmt:=top 31
abbrev N2:Stmt:=top 32
abbrev Gb:Stmt:=top 33
abbrev So:Stmt:=top 34
abbrev Vw:Stmt:=top 35
abbrev Uo:Stmt:=top 36
abbrev Wg:Stmt:=top 37
abbrev N3:Stmt:=top 38
abbrev Jz:Stmt:=top 39
abbrev Wh:Stmt:=top 40
abbrev Sq:Stmt:=top 41
abbrev Lq:Stmt:=top 42
abbrev Kp:Stmt:=Gs (top 11) 0
abbrev Wi:Stmt:=Gs (top 11) 1
abbrev Up:Stmt:=Gs (top 11) 2
abbrev Uq:Stmt:=Gs (top 12) 0
abbrev Ur:Stmt:=Gs (top 12) 1
abbrev Gc:Stmt:=Gs (top 12) 2
abbrev N4:Stmt:=Gs (top 12) 3
abbrev M6:Stmt:=Gs (top 12) 4
abbrev Wj:Stmt:=Gs (top 12) 5
section
variable {P:Program}{w:World}{K:PySem.W.Frag}{mg:Str->Option Value}{base:Heap}
noncomputable def X1:List D->M S:=Ue 2 3
  (Zx (Z5 2 (J2 Wy (Zb (Zd 0) Zh)))
   (Zx (Z5 3 (J2 Wy (Zb (Zd 1) Zh)))
   (Zx (W3 (tB (Zl W0 (Zd 3) ↑0)) (Zx (Z5 4 (Zl Qa (Zd 2) (Zd 3)))
   (Zx (Z5 2 (Zd 3))
   (Z5 3 (Zd 4)))))
   (Qr (Zd 2)))))
def sc_common_divisor:FnScope ["one","other","greater","lesser","rest"] ["one","other"] (Zj Jy):=⟨rfl,rfl,rfl,by decide +kernel,rfl,by decide +kernel,by decide +kernel⟩
def G0 (d:Dm K mg "common_divisor" Jy) (z_abs:mg "abs"=none):Cl P w K mg base 1 "common_divisor" ["one","other"] X1:=
 d.cl (by trivial) fun _ _ F=>Jl F sc_common_divisor rfl rfl fun cdv A outer s H E hr=>
  (Zg (Zq 2 sc_common_divisor.nd (Qw Nm (by rfl) z_abs (by rfl) (Za (Zc 0) Ze)))
   (Zg (Zq 3 sc_common_divisor.nd (Qw Nm (by rfl) z_abs (by rfl) (Za (Zc 1) Ze)))
   (Zg (Lc PassesOwn.never (Zr (U7 hr.units) (Zc 3) Zf (Zy _)) (Zg (Zq 4 sc_common_divisor.nd (Zo Qk (Zc 2) (Zc 3)))
   (Zg (Zq 2 sc_common_divisor.nd (Zc 3))
   (Zm (Zq 3 sc_common_divisor.nd (Zc 4))))))
   (Zm (Zs (Zc 2))))))
noncomputable def V4:List D->M S:=Ue 2 1
  (Zx (Z5 2 (Zv X1 (Zb (Zd 0) (Zb (Zd 1) Zh))))
   (Qr (Qq (Zb (Zl Yb (Zd 0) (Zd 2)) (Zb (Zl Yb (Zd 1) (Zd 2)) Zh)))))
def sc_amount:FnScope ["top","bottom","divisor"] ["top","bottom"] (Zj Sj):=⟨rfl,rfl,rfl,by decide +kernel,rfl,by decide +kernel,by decide +kernel⟩
def Og (d:Dm K mg "amount" Sj) (c_common_divisor:Cl P w K mg base 1 "common_divisor" ["one","other"] X1):Cl P w K mg base 2 "amount" ["top","bottom"] V4:=
 d.cl (by trivial) fun _ _ F=>Jl F sc_amount rfl rfl fun cdv A outer s H E hr=>
  (Zg (Zq 2 sc_amount.nd (Zw c_common_divisor (hr.mono (by decide)) (Za (Zc 0) (Za (Zc 1) Ze))))
   (Zm (Zs (Qe (Za (Zo Yw (Zc 0) (Zc 2)) (Za (Zo Yw (Zc 1) (Zc 2)) Ze))))))
noncomputable def Kq:List D->M S:=Ue 2 0
  (Qr (Zl Zau (Zl Qb 0[0]! 1[1]!) (Zl Qb 1[0]! 0[1]!)))
def Zb0:FnScope ["one","other"] ["one","other"] (Zj M3):=⟨rfl,rfl,rfl,by decide +kernel,rfl,by decide +kernel,by decide +kernel⟩
def Zb1 (d:Dm K mg "below" M3)  : Cl P w K mg base 1 "below" ["one","other"] Kq:=
 d.cl (by trivial) fun _ _ F=>Jl F Zb0 rfl rfl fun cdv A outer s H E hr=>
  (Zm (Zs (Vs Ev (Zo Qn (Zz (Zc 0)) (Zz (Zc 1))) (Zo Qn (Zz (Zc 1)) (Zz (Zc 0))) (Zy _))))
noncomputable def Us:List D->M S:=Ue 1 0
  (Qr (Pq (O4 "int" (Zd 0)) (Zj9 (O4 "bool" (Zd 0)))))
def A6:FnScope ["value"] ["value"] (Zj W8):=⟨rfl,rfl,rfl,by decide +kernel,rfl,by decide +kernel,by decide +kernel⟩
def A7 (d:Dm K mg "is_whole" W8) (z_isinstance:mg "isinstance"=none) (z_int:mg "int"=none) (z_bool:mg "bool"=none):Cl P w K mg base 1 "is_whole" ["value"] Us:=
 d.cl (by trivial) fun _ _ F=>Jl F A6 rfl rfl fun cdv A outer s H E hr=>
  (Zm (Zs (No (Xz "int" (by rfl) z_isinstance z_int (by rfl) (by rfl) (Zc 0)) (Mn (Zht (Xz "bool" (by rfl) z_isinstance z_bool (by rfl) (by rfl) (Zc 0)))))))
noncomputable def Y6:List D->M S:=Ue 3 0
  (Qr (Pq (Zv Us (Zb (Zd 0) Zh)) (Pq (Zl Zl2 (Zd 1) (Zd 0)) (Zl Zl2 (Zd 0) (Zd 2)))))
def Tm:FnScope ["value","least","greatest"] ["value","least","greatest"] (Zj Ul):=⟨rfl,rfl,rfl,by decide +kernel,rfl,by decide +kernel,by decide +kernel⟩
def Tn (d:Dm K mg "is_from_to" Ul) (c_is_whole:Cl P w K mg base 1 "is_whole" ["value"] Us):Cl P w K mg base 2 "is_from_to" ["value","least","greatest"] Y6:=
 d.cl (by trivial) fun _ _ F=>Jl F Tm rfl rfl fun cdv A outer s H E hr=>
  (Zm (Zs (No (Zw c_is_whole (hr.mono (by decide)) (Za (Zc 0) Ze)) (No (Vs Zf4 (Zc 1) (Zc 0) (Zy _)) (Mn (Vs Zf4 (Zc 0) (Zc 2) (Zy _)))))))
noncomputable def Xt:List D->M S:=Ue 5 2
  (Zx (Z5 5 (Nn (tB (Zl Xg (Zd 2) ↑"up")) (Zd 3) (Zd 4)))
   (Zx (Z5 6 (Nn (tB (Zl Xg (Zd 2) ↑"up")) (Zd 0) (Zd 1)))
   (Zx (Xw (tB (Zl Xg (Zd 5) ↑0)) (Qr ↑3) Q3)
   (Zx (Xw (tB (Zl Xg (Zd 5) (Zd 6))) (Qr ↑4) Q3)
   (Qr (eC .non))))))
def sc_outward_face:FnScope ["width","height","kind","x","y","line","last"] ["width","height","kind","x","y"] (Zj K5):=⟨rfl,rfl,rfl,by decide +kernel,rfl,by decide +kernel,by decide +kernel⟩
def P0 (d:Dm K mg "outward_face" K5)  : Cl P w K mg base 1 "outward_face" ["width","height","kind","x","y"] Xt:=
 d.cl (by trivial) fun _ _ F=>Jl F sc_outward_face rfl rfl fun cdv A outer s H E hr=>
  (Zg (Zq 5 sc_outward_face.nd (Yz (Zr (Yc hr.units) (Zc 2) Qj (Zy _)) (Zc 3) (Zc 4)))
   (Zg (Zq 6 sc_outward_face.nd (Yz (Zr (Yc hr.units) (Zc 2) Qj (Zy _)) (Zc 0) (Zc 1)))
   (Zg (Qh (Zr (Yc hr.units) (Zc 5) Zf (Zy _)) (Zm (Zs Zf)) Z9)
   (Zg (Qh (Zr (Yc hr.units) (Zc 5) (Zc 6) (Zy _)) (Zm (Zs Zf)) Z9)
   (Zm (Zs Q8))))))
noncomputable def Yr:List D->M S:=Ue 4 1
  (Zx (Ka (Kj 0[2]!) (Xf 4) (Xw (tB (Zl Xg (Do (Zd 4) Rs (Xq ↑3)) (Qq (Zb (Zd 1) (Zb (Zd 2) (Zb (Zd 3) Zh)))))) (Qr (Do (Zd 4) (Xq ↑3) Rs)) Q3))
   (Zx (Xw (tB (Zl Ap (Zv Xt (Zb 0[0]! (Zb 0[1]! (Zb (Zd 1) (Zb (Zd 2) (Zb (Zd 3) Zh)))))) (eC .non))) (Qr (eC .non)) Q3)
   (Qr (Qq (Zb ↑"p" (Zb ↑"p" Zh))))))
def sc_faces:FnScope ["hall","kind","x","y","side"] ["hall","kind","x","y"] (Zj M4):=⟨rfl,rfl,rfl,by decide +kernel,rfl,by decide +kernel,by decide +kernel⟩
def Zb2 (d:Dm K mg "faces" M4) (c_outward_face:Cl P w K mg base 1 "outward_face" ["width","height","kind","x","y"] Xt):Cl P w K mg base 2 "faces" ["hall","kind","x","y"] Yr:=
 d.cl (by trivial) fun _ _ F=>Jl F sc_faces rfl rfl fun cdv A outer s H E hr=>
  (Zg (Xk PassesOwn.never rfl (Jr (Zz (Zc 0))) (Z7 4 sc_faces.nd) (Zm (Qh (Zr (Yc hr.units) (V1 (Zc 4) Rt (Jq Zf)) (Qe (Za (Zc 1) (Za (Zc 2) (Za (Zc 3) Ze)))) (Zy _)) (Zm (Zs (V1 (Zc 4) (Jq Zf) Rt))) Z9)))
   (Zg (Qh (Zr Ms (Zw c_outward_face (hr.mono (by decide)) (Za (Zz (Zc 0)) (Za (Zz (Zc 0)) (Za (Zc 1) (Za (Zc 2) (Za (Zc 3) Ze)))))) Q8 (Zy _)) (Zm (Zs Q8)) Z9)
   (Zm (Zs (Qe (Za Qj (Za Qj Ze)))))))
noncomputable def Vk:List D->M S:=Ue 3 3
  (Zx (Z5 3 0[0]!)
   (Zx (Z5 4 0[1]!)
   (Zx (Xw (tO (tN (tB (Zv Y6 (Zb (Zd 1) (Zb ↑0 (Zb (Zd 3) Zh)))))) (tN (tB (Zv Y6 (Zb (Zd 2) (Zb ↑0 (Zb (Zd 4) Zh))))))) (Qr (eC (.bl false))) Q3)
   (Zx (Xw (tO (tB (Zl Zee (Zd 1) (Qq (Zb ↑0 (Zb (Zd 3) Zh))))) (tB (Zl Zee (Zd 2) (Qq (Zb ↑0 (Zb (Zd 4) Zh)))))) (Qr (eC (.bl true))) Q3)
   (Zx (Z5 5 (Xh (Zb (Qq (Zb ↑"up" (Zb (Zd 1) (Zb (Zl Jv (Zd 2) ↑1) Zh)))) (Zb (Qq (Zb ↑"up" (Zb (Zd 1) (Zb (Zd 2) Zh)))) (Zb (Qq (Zb ↑"flat" (Zb (Zl Jv (Zd 1) ↑1) (Zb (Zd 2) Zh)))) (Zb (Qq (Zb ↑"flat" (Zb (Zd 1) (Zb (Zd 2) Zh)))) Zh))))))
   (Qr (J2 Zed (Zb (Pu (V2 (Kj 0[2]!) 1 [5] (Xf 0) (Zl Zee (Do (Zd 0) Rs (Xq ↑3)) (Zd 1)))) Zh))))))))
def sc_is_corner:FnScope ["hall","x","y","width","height","edges"] ["hall","x","y"] (Zj Jj):=⟨rfl,rfl,rfl,by decide +kernel,rfl,by decide +kernel,by decide +kernel⟩
def M7 (d:Dm K mg "is_corner" Jj) (c_is_from_to:Cl P w K mg base 2 "is_from_to" ["value","least","greatest"] Y6) (z_any:mg "any"=none):Cl P w K mg base 3 "is_corner" ["hall","x","y"] Vk:=
 d.cl (by trivial) fun _ _ F=>Jl F sc_is_corner rfl rfl fun cdv A outer s H E hr=>
  (Zg (Zq 3 sc_is_corner.nd (Zz (Zc 0)))
   (Zg (Zq 4 sc_is_corner.nd (Zz (Zc 0)))
   (Zg (Qh ((Uc (Jn (Yq (Zw c_is_from_to (hr.mono (by decide)) (Za (Zc 1) (Za Zf (Za (Zc 3) Ze)))))) (Vc (Jn (Yq (Zw c_is_from_to (hr.mono (by decide)) (Za (Zc 2) (Za Zf (Za (Zc 4) Ze))))))))).pt (Zm (Zs Uy)) Z9)
   (Zg (Qh ((Uc (Zr (Za3 (by exact hr.units)) (Zc 1) (Qe (Za Zf (Za (Zc 3) Ze))) (by with_unfolding_all rfl)) (Vc (Zr (Za3 (by exact hr.units)) (Zc 2) (Qe (Za Zf (Za (Zc 4) Ze))) (by with_unfolding_all rfl))))).pt (Zm (Zs Uy)) Z9)
   (Zg (Zq 5 sc_is_corner.nd (X8 (Za (Qe (Za Qj (Za (Zc 1) (Za (Zo Jf (Zc 2) Zf) Ze)))) (Za (Qe (Za Qj (Za (Zc 1) (Za (Zc 2) Ze)))) (Za (Qe (Za Qj (Za (Zo Jf (Zc 1) Zf) (Za (Zc 2) Ze)))) (Za (Qe (Za Qj (Za (Zc 1) (Za (Zc 2) Ze)))) Ze))))))
   (Zm (Zs (Qw (Zhw rfl) (by rfl) z_any (by rfl) (Za (Mq (U8 (Nc:=["side","edges"]) rfl (Ui (fun y hy hf=>X9 (Pv (sc:=Zj Jj) (by decide +kernel) y hy hf))) (Zei (sc:=Zj Jj) rfl rfl (by decide +kernel) (Pv (by decide +kernel)) (fun y hy hf=>X9 (Pv (sc:=Zj Jj) (by decide +kernel) y hy hf)) rfl (P7 (N:=["hall","x","y","width","height","edges"]) rfl (by decide +kernel))) rfl (by decide +kernel) (by decide +kernel) (Ks (by decide)) (Jr (Zz (Zc 0))) (fun s3 H3 C ex=>Z7 0 (show(["side","edges"]:List Str).Nodup by decide +kernel)) (fun s3 H3 C ex=>(Vs (Za3 (by exact hr.units)) (V1 (Zc 0) Rt (Jq Zf)) (Zc 1) (by with_unfolding_all rfl))))) Ze)))))))))
noncomputable def Y4:List D->M S:=Ue 1 0
  (Qr (Zl Yb 0[0]! 0[1]!))
def M8:FnScope ["place"] ["place"] (Zj Wd):=⟨rfl,rfl,rfl,by decide +kernel,rfl,by decide +kernel,by decide +kernel⟩
def M9 (d:Dm K mg "square_of" Wd)  : Cl P w K mg base 1 "square_of" ["place"] Y4:=
 d.cl (by trivial) fun _ _ F=>Jl F M8 rfl rfl fun cdv A outer s H E hr=>
  (Zm (Zs (Zo Yw (Zz (Zc 0)) (Zz (Zc 0)))))
noncomputable def Xb:List D->M S:=Ue 2 3
  (Zx (Z5 2 ↑1)
   (Zx (Ka (D4 (Zb (Zd 0) (Zb (Zd 1) Zh))) (K0 2 (Q0 (Xf 3) (Q0 (Xf 4) Ve))) (Z5 2 (Zl Qb (Zl Qb (Zd 2) 3[1]!) (J2 A3 (Zb ↑1 (Zb (J2 Wy (Zb 4[0]! Zh)) Zh))))))
   (Qr (Zd 2))))
def sc_whole_time_of:FnScope ["point","step","time","begin","part"] ["point","step"] (Zj Kb):=⟨rfl,rfl,rfl,by decide +kernel,rfl,by decide +kernel,by decide +kernel⟩
def N5 (d:Dm K mg "whole_time_of" Kb) (z_zip:mg "zip"=none) (z_abs:mg "abs"=none) (z_max:mg "max"=none):Cl P w K mg base 1 "whole_time_of" ["point","step"] Xb:=
 d.cl (by trivial) fun _ _ F=>Jl F sc_whole_time_of rfl rfl fun cdv A outer s H E hr=>
  (Zg (Zq 2 sc_whole_time_of.nd Zf)
   (Zg (Xk PassesOwn.never rfl (Oe (by rfl) z_zip (Za (Zc 0) (Za (Zc 1) Ze))) (Ud rfl (Q6 (Z7 3 sc_whole_time_of.nd) (Q6 (Z7 4 sc_whole_time_of.nd) Kz))) (Zm (Zq 2 sc_whole_time_of.nd (Zo Qn (Zo Qn (Zc 2) (Zz (Zc 3))) (Qw (Zes rfl) (by rfl) z_max (by rfl) (Za Zf (Za (Qw Nm (by rfl) z_abs (by rfl) (Za (Zz (Zc 4)) Ze)) Ze)))))))
   (Zm (Zs (Zc 2)))))
noncomputable def Jb:List D->M S:=Ue 3 0
  (Zx (Xw (tB (Zl Xg (Zd 0) ↑"corner")) (Qr ↑"corner") Q3)
   (Zx (Xw (tB (Zd 1)) (Qr ↑"end") Q3)
   (Zx (Xw (tB (Zl Xg (Zd 0) ↑"p")) (Qr ↑"plain") Q3)
   (Zx (Xw (tA (tB (Zl Xg (Zd 0) ↑"m")) (tN (tB (Zd 2)))) (Qr ↑"many") Q3)
   (Qr (eC .non))))))
def Sr:FnScope ["thing","is_over","may_turn"] ["thing","is_over","may_turn"] (Zj Vu):=⟨rfl,rfl,rfl,by decide +kernel,rfl,by decide +kernel,by decide +kernel⟩
def Ss (d:Dm K mg "how_it_ends" Vu)  : Cl P w K mg base 1 "how_it_ends" ["thing","is_over","may_turn"] Jb:=
 d.cl (by trivial) fun _ _ F=>Jl F Sr rfl rfl fun cdv A outer s H E hr=>
  (Zg (Qh (Zr (Yc hr.units) (Zc 0) Qj (Zy _)) (Zm (Zs Qj)) Z9)
   (Zg (Qh (Yq (Zc 1)) (Zm (Zs Qj)) Z9)
   (Zg (Qh (Zr (Yc hr.units) (Zc 0) Qj (Zy _)) (Zm (Zs Qj)) Z9)
   (Zg (Qh ((Ki (Zr (Yc hr.units) (Zc 0) Qj (Zy _)) (Ky (Jn (Yq (Zc 2)))))).pt (Zm (Zs Qj)) Z9)
   (Zm (Zs Q8))))))
end
section
variable {P:Program}{w:World}{K:PySem.W.Frag}{mg:Str->Option Value}{base:Heap}
def Ba:FnScope ["self"] ["self"] (Zj Wj):=⟨rfl,rfl,rfl,by decide +kernel,rfl,by decide +kernel,by decide +kernel⟩
noncomputable def Wk:Q2->List D->Option Q2:=Zdh 0 0 (K4 (Nx "heading" (Zms Wz (U2 "heading"))) (Zbo "due" (U2 "lap")))
def Bb {f:Addr}{fd:FuncData}{C:Addr} (F:Fun K "turn_back" "Track.turn_back" Wj f fd) (tc:TkC K C):FnOk P w K mg base Y2 1 f fd ["self"] (Py K C Wk):=
 Zeq F Ba rfl rfl fun cdv A outer s H E hr=>(Xs (Kn tc.oc.cls tc.n3 (Zib W5 (Uk tc.oc.cls tc.n3))) (Vj (M0 tc.oc.cls tc.n4 (Uk tc.oc.cls tc.n5))))
def Zb3:FnScope ["self"] ["self"] (Zj M6):=⟨rfl,rfl,rfl,by decide +kernel,rfl,by decide +kernel,by decide +kernel⟩
noncomputable def Bc:Q2->List D->Option Q2:=Zdh 0 0 (K4 (Zbo "square" (U2 "heading")) (Zbo "due" (U2 "lap")))
def Zb4 {f:Addr}{fd:FuncData}{C:Addr} (F:Fun K "go_on" "Track.go_on" M6 f fd) (tc:TkC K C):FnOk P w K mg base Y2 1 f fd ["self"] (Py K C Bc):=
 Zeq F Zb3 rfl rfl fun cdv A outer s H E hr=>(Xs (M0 tc.oc.cls tc.n2 (Uk tc.oc.cls tc.n3)) (Vj (M0 tc.oc.cls tc.n4 (Uk tc.oc.cls tc.n5))))
def Bd:FnScope ["track","now","thing"] ["track","now","thing"] (Zj We):=⟨rfl,rfl,rfl,by decide +kernel,rfl,by decide +kernel,by decide +kernel⟩
noncomputable def F_pass_line:Q2->List D->Option Q2:=Zdh 2 0 (Zdg (gB (C9 Xg (U2 "due") (Km (Zd 1)))) (Zdg (fun sd _=>DL.tB (Zl Xg (Zd 2) ↑"m") sd) (Fi "turn_back" Wk) (Fi "go_on" Bc)) Zia)
def Be {f:Addr}{fd:FuncData}{C f1 f2:Addr}{fd1 fd2:FuncData} (F:Fun K "pass_line" "pass_line" We f fd) (tc:TkC K C) (m1:Meth K C "turn_back" f1) (G1:FnOk P w K mg base Y2 1 f1 fd1 ["self"] (Py K C Wk)) (b1:Binds K fd1 ["self"] []) (m2:Meth K C "go_on" f2) (G2:FnOk P w K mg base Y2 1 f2 fd2 ["self"] (Py K C Bc)) (b2:Binds K fd2 ["self"] []):
  FnOk P w K mg base Y2 2 f fd ["track","now","thing"] (Py K C F_pass_line):=
 Zeq F Bd rfl rfl fun cdv A outer s H E hr=>(Vj (D1 (Fj (Yc hr.units) (Uk tc.oc.cls tc.n4) (Xm (Zc 1)) (Zy _)) (Vj (D1 (Fk (Zr (Yc hr.units) (Zc 2) Qj (Zy _))) (Vj (A1 tc.oc.cls m1 G1 (hr.mono (by decide)) b1)) (Vj (A1 tc.oc.cls m2 G2 (hr.mono (by decide)) b2)))) Fl))
def sc_Track_init:FnScope ["self","begin","part","whole_time","behind","left"] ["self","begin","part","whole_time"] (Zj Uq):=⟨rfl,rfl,rfl,by decide +kernel,rfl,by decide +kernel,by decide +kernel⟩
noncomputable def Ju:Q2->List D->Option Q2:=Zdh 3 2
 (K4 (Nx "begin" (Km (Zd 1)))
 (K4 (Nx "square" (Km (Zv Y4 (Zb (Zd 1) Zh))))
 (K4 (Nx "heading" (Km ↑0))
 (K4 (Nx "due" (Km (Zl Z8 (Zd 3) ↑1)))
 (K4 (Nx "lap" (Km ↑0))
 (Zdg (fun sd _=>DL.tB (Zl W0 2[0]! ↑0) sd)
  (K4 (Nx "heading" (Km (Nn (DL.tB (Zl Gh 2[0]! ↑0)) ↑1 (E7 Wz ↑1))))
  (K4 (Nx "lap" (Km (Zl Qb 2[1]! (Zl Yb (Zd 3) (J2 Wy (Zb 2[0]! Zh))))))
  (K4 (Oc 4 (Km (Zl Qa 1[0]! 1[1]!)))
  (K4 (Oc 5 (Zep (gB (C9 Gh (U2 "heading") (Km ↑0))) (Km (Zl Jv 1[1]! (Zd 4))) (Km (Zd 4))))
   (Nx "due" (C9 Qb (Km (Zd 5)) (C9 Yb (U2 "lap") (Km 1[1]!)))))))) Zia))))))
def To {f:Addr}{fd:FuncData}{C:Addr} (F:Fun K "__init__" "Track.__init__" Uq f fd) (tc:TkC K C) {f1:Addr}{fd1:FuncData} (G1:FnOk P w K mg base Y2 1 f1 fd1 ["place"] (B1 K Y4)) (b1:Binds K fd1 ["place"] []) (k1:PySem.W.keepIn K (.ref f1)=true) (m1:mg "square_of"=some (.ref f1)) (z_abs:mg "abs"=none):
  FnOk P w K mg base Y2 2 f fd ["self","begin","part","whole_time"] (Py K C Ju):=
 Zeq F sc_Track_init rfl rfl fun cdv A outer s H E hr=>
  (Xs (Kn tc.oc.cls tc.n1 (Xm (Zc 1)))
  (Xs (Kn tc.oc.cls tc.n2 (Xm (Jd G1 (hr.mono (by decide)) m1 k1 b1 (Za (Zc 1) Ze))))
  (Xs (Kn tc.oc.cls tc.n3 (Xm Zf))
  (Xs (Kn tc.oc.cls tc.n4 (Xm (Zo Qp (Zc 3) Zf)))
  (Xs (Kn tc.oc.cls tc.n5 (Xm Zf))
  (Vj (D1 (Fk (Zr (U7 hr.units) (Zz (Zc 2)) Zf (Zy _)))
   (Xs (Kn tc.oc.cls tc.n3 (Xm (Yz (Zr Gi (Zz (Zc 2)) Zf (Zy _)) Zf (Lf W5 Zf))))
   (Xs (Kn tc.oc.cls tc.n5 (Xm (Zo Qn (Zz (Zc 2)) (Zo Yw (Zc 3) (Qw Nm (by rfl) z_abs (by rfl) (Za (Zz (Zc 2)) Ze))))))
   (Xs (Fm 4 sc_Track_init.nd (Xm (Zo Qk (Zz (Zc 1)) (Zz (Zc 1)))))
   (Xs (Fm 5 sc_Track_init.nd (Zic (Fj Gi (Uk tc.oc.cls tc.n3) (Xm Zf) (Zy _)) (Xm (Zo Jf (Zz (Zc 1)) (Zc 4))) (Xm (Zc 4))))
   (Vj (Kn tc.oc.cls tc.n4 (Zbp Qn (Xm (Zc 5)) (Zbp Yw (Uk tc.oc.cls tc.n5) (Xm (Zz (Zc 1))))))))))) Fl)))))))
def Tp:FnScope ["self"] ["self"] (Zj Ur):=⟨rfl,rfl,rfl,by decide +kernel,rfl,by decide +kernel,by decide +kernel⟩
noncomputable def Qv:List S->M S:=Fh 1 0 (Qr (Nn (DL.tB (Zl Gh (Yd 0 "Track" "heading") ↑0)) (Zl Z8 (Yd 0 "Track" "square") ↑1) (Yd 0 "Track" "square")))
def Tq {f:Addr}{fd:FuncData}{C:Addr} (F:Fun K "line_ahead" "Track.line_ahead" Ur f fd) (tc:TkC K C):FnOk P w K mg base Y2 1 f fd ["self"] (Pk K Qv):=
 Dx F Tp rfl rfl fun cdv A outer s H E hr=>
  (Zm (Zs (Yz (Zr Gi (Qy 0 tc.oc tc.n3) Zf (Zy _)) (Zo Qp (Qy 0 tc.oc tc.n2) Zf) (Qy 0 tc.oc tc.n2))))
end
section
variable {P:Program}{w:World}{K:PySem.W.Frag}{mg:Str->Option Value}{base:Heap}
def A8:FnScope ["self","time"] ["self","time"] (Zj Gc):=⟨rfl,rfl,rfl,by decide +kernel,rfl,by decide +kernel,by decide +kernel⟩
noncomputable def Yj:List S->M S:=Fh 2 0
 (Zx (Xw (DL.tB (Zl Xg (Yd 0 "Track" "heading") ↑0)) (Qr (Yd 0 "Track" "begin")) Q3)
  (Qr (Zv V4 (Zb (Zl Jv (Zl Qb (Xr 0 "Track" "line_ahead" Qv Zh) (Yd 0 "Track" "lap")) (Zl Qb (Yd 0 "Track" "heading") (Zl Jv (Yd 0 "Track" "due") (Zd 1)))) (Zb (Yd 0 "Track" "lap") Zh)))))
def A9 {f:Addr}{fd:FuncData}{C:Addr} (F:Fun K "place_at" "Track.place_at" Gc f fd) (tc:TkC K C) {f1 f2:Addr}{fd1 fd2:FuncData}
  (m1:Meth K C "line_ahead" f1) (G1:FnOk P w K mg base Y2 1 f1 fd1 ["self"] (Pk K Qv)) (b1:Binds K fd1 ["self"] [])
  (G2:FnOk P w K mg base Y2 2 f2 fd2 ["top","bottom"] (B1 K V4)) (b2:Binds K fd2 ["top","bottom"] []) (k2:PySem.W.keepIn K (.ref f2)=true) (m2:mg "amount"=some (.ref f2)):FnOk P w K mg base Y2 3 f fd ["self","time"] (Pk K Yj):=
 Dx F A8 rfl rfl fun cdv A outer s H E hr=>
  (Zg (Qh (Zr (Yc hr.units) (Qy 0 tc.oc tc.n3) Zf (Zy _)) (Zm (Zs (Qy 0 tc.oc tc.n1))) Z9)
   (Zm (Zs (Jd G2 (hr.mono (by decide)) m2 k2 b2 (Za (Zo Jf (Zo Qn (Kt 0 tc.oc m1 G1 (hr.mono (by decide)) b1) (Qy 0 tc.oc tc.n5)) (Zo Qn (Qy 0 tc.oc tc.n3) (Zo Jf (Qy 0 tc.oc tc.n4) (Zc 1)))) (Za (Qy 0 tc.oc tc.n5) Ze))))))
def sc_time_at:FnScope ["self","place","left"] ["self","place"] (Zj N4):=⟨rfl,rfl,rfl,by decide +kernel,rfl,by decide +kernel,by decide +kernel⟩
noncomputable def Ku:List S->M S:=Fh 2 1
 (Zx (Z5 2 (Zl Qb (Yd 0 "Track" "heading") (Zl Jv (Zl Qb (Xr 0 "Track" "line_ahead" Qv Zh) 1[1]!) 1[0]!)))
  (Qr (Zv V4 (Zb (Zl Jv (Zl Qb (Yd 0 "Track" "due") 1[1]!) (Zl Qb (Zd 2) (Yd 0 "Track" "lap"))) (Zb 1[1]! Zh)))))
def D6 {f:Addr}{fd:FuncData}{C:Addr} (F:Fun K "time_at" "Track.time_at" N4 f fd) (tc:TkC K C) {f1 f2:Addr}{fd1 fd2:FuncData}
  (m1:Meth K C "line_ahead" f1) (G1:FnOk P w K mg base Y2 1 f1 fd1 ["self"] (Pk K Qv)) (b1:Binds K fd1 ["self"] [])
  (G2:FnOk P w K mg base Y2 2 f2 fd2 ["top","bottom"] (B1 K V4)) (b2:Binds K fd2 ["top","bottom"] []) (k2:PySem.W.keepIn K (.ref f2)=true) (m2:mg "amount"=some (.ref f2)):FnOk P w K mg base Y2 3 f fd ["self","place"] (Pk K Ku):=
 Dx F sc_time_at rfl rfl fun cdv A outer s H E hr=>
  (Zg (Zq 2 sc_time_at.nd (Zo Qn (Qy 0 tc.oc tc.n3) (Zo Jf (Zo Qn (Kt 0 tc.oc m1 G1 (hr.mono (by decide)) b1) (Zz (Zc 1))) (Zz (Zc 1)))))
   (Zm (Zs (Jd G2 (hr.mono (by decide)) m2 k2 b2 (Za (Zo Jf (Zo Qn (Qy 0 tc.oc tc.n4) (Zz (Zc 1))) (Zo Qn (Zc 2) (Qy 0 tc.oc tc.n5))) (Za (Zz (Zc 1)) Ze))))))
def Tr:FnScope ["track","pair"] ["track","pair"] (Zj Um):=⟨rfl,rfl,rfl,by decide +kernel,rfl,by decide +kernel,by decide +kernel⟩
noncomputable def F_face_ahead:List S->M S:=Fh 2 0
 (Zx (Xw (DL.tB (Zl Ap (Zd 1) (eC .non))) (Qr (eC .non)) Q3)
  (Qr (Nn (DL.tB (Zl Gh (Yd 0 "Track" "heading") ↑0)) 1[0]! 1[1]!)))
def Ts {f:Addr}{fd:FuncData}{C:Addr} (F:Fun K "face_ahead" "face_ahead" Um f fd) (tc:TkC K C):FnOk P w K mg base Y2 1 f fd ["track","pair"] (Pk K F_face_ahead):=
 Dx F Tr rfl rfl fun cdv A outer s H E hr=>
  (Zg (Qh (Zr Ms (Zc 1) Q8 (Zy _)) (Zm (Zs Q8)) Z9)
   (Zm (Zs (Yz (Zr Gi (Qy 0 tc.oc tc.n3) Zf (Zy _)) (Zz (Zc 1)) (Zz (Zc 1))))))
def sc_time_to:FnScope ["across","upward","person","times","track","place"] ["across","upward","person"] (Zj N0):=⟨rfl,rfl,rfl,by decide +kernel,rfl,by decide +kernel,by decide +kernel⟩
noncomputable def F_time_to:List S->M S:=Fh 3 3
 (Zx (Rx 3 (Rw Zh))
 (Zx (Gy 4 5 0 1 2[0]! 2[1]!
  (Xw (DL.tB (Zl W0 (Yd 4 "Track" "heading") ↑0)) (Vt 3 (Xr 4 "Track" "time_at" Ku (Zb (Zd 5) Zh)))
   (Xw (DL.tB (Zl W0 (Zd 5) (Yd 4 "Track" "begin"))) (Qr (eC .non)) Q3)))
 (Rz 3 (Qr (Nn (DL.tB (Zl Xg 3[0]! (Zl Yu (Zd 3) (E7 Wz ↑1)))) 3[0]! (eC .non))))))
def D7 {f:Addr}{fd:FuncData}{C:Addr} (F:Fun K "time_to" "time_to" N0 f fd) (tc:TkC K C) {f1:Addr}{fd1:FuncData}
  (m1:Meth K C "time_at" f1) (G1:FnOk P w K mg base Y2 3 f1 fd1 ["self","place"] (Pk K Ku)) (b1:Binds K fd1 ["self","place"] []):FnOk P w K mg base Y2 4 f fd ["across","upward","person"] (Pk K F_time_to):=
 Dx F sc_time_to rfl rfl fun cdv A outer s H E hr=>
  (Zg (Kl 3 sc_time_to.nd (Kk Ze))
  (Zg (Zbk 4 5 0 1 PassesOwn.never rfl sc_time_to.nd (Zz (Zc 2)) (Zz (Zc 2))
   (Zm (Qh (Zr (U7 hr.units) (Qy 4 tc.oc tc.n3) Zf (Zy _)) (Zm (Vf 3 (Wb 4 tc.oc m1 G1 (hr.mono (by decide)) b1 (Za (Zc 5) Ze))))
    (Zm (Qh (Zr (U7 hr.units) (Zc 5) (Qy 4 tc.oc tc.n1) (Zy _)) (Zm (Zs Q8)) Z9)))))
  (Uh 3 (Zm (Zs (Yz (Zr (Yc hr.units) (Zz (Zc 3)) (Jw (Zc 3) (Lf W5 Zf) (fun _ _=>rfl)) (Zy _)) (Zz (Zc 3)) Q8))))))
def Bf:FnScope ["self","square"] ["self","square"] (Zj Wi):=⟨rfl,rfl,rfl,by decide +kernel,rfl,by decide +kernel,by decide +kernel⟩
noncomputable def Jk:List S->M S:=Fh 2 0 (Qr (Dy 0 (Zd 1) (Qq Zh)))
def Bg {f:Addr}{fd:FuncData}{C:Addr} (F:Fun K "people_at" "Floor.people_at" Wi f fd) (oc:ObC K "Floor" C) (na:NoAttr K C "by_square"):FnOk P w K mg base Y2 1 f fd ["self","square"] (Pk K Jk):=
 Dx F Bf rfl rfl fun cdv A outer s H E hr=>
  (Zm (Zs (Zbl 0 hr.units oc na (Zc 1) (Qe Ze))))
def sc_person_ahead:FnScope ["floor","across","upward","whole_time","first","soonest","person","time"] ["floor","across","upward","whole_time"] (Zj K6):=⟨rfl,rfl,rfl,by decide +kernel,rfl,by decide +kernel,by decide +kernel⟩
noncomputable def F_person_ahead:List S->M S:=Fh 4 4
 (Zx (Z5 4 (eC .non))
 (Zx (Z5 5 (Qq (Zb (Zd 3) (Zb ↑1 Zh))))
 (Zx (Ka (Kj (Se 0 Jk (Zb (Qq (Zb (Yd 1 "Track" "square") (Zb (Yd 2 "Track" "square") Zh))) Zh))) (Xf 6)
  (Zx (Z5 7 (Sc F_time_to (Wa 1 (Wa 2 (Ax (Zd 6) Aw)))))
   (Xw (tA (DL.tB (Zl Xl (Zd 7) (eC .non))) (tA (DL.tB (Zv Kq (Zb (Qq (Zb ↑0 (Zb ↑1 Zh))) (Zb (Zd 7) Zh)))) (DL.tB (Zv Kq (Zb (Zd 7) (Zb (Zd 5) Zh))))))
    (Zx (Z5 4 (Zd 6)) (Z5 5 (Zd 7))) Q3)))
 (Qr (Zd 4)))))
def P3 {f:Addr}{fd:FuncData}{C CF:Addr} (F:Fun K "person_ahead" "person_ahead" K6 f fd) (tc:TkC K C) (oc:ObC K "Floor" CF) {f1 f2 f3:Addr}{fd1 fd2 fd3:FuncData}
  (m1:Meth K CF "people_at" f1) (G1:FnOk P w K mg base Y2 1 f1 fd1 ["self","square"] (Pk K Jk)) (b1:Binds K fd1 ["self","square"] [])
  (G2:FnOk P w K mg base Y2 4 f2 fd2 ["across","upward","person"] (Pk K F_time_to)) (b2:Binds K fd2 ["across","upward","person"] []) (k2:PySem.W.keepIn K (.ref f2)=true) (m2:mg "time_to"=some (.ref f2))
  (G3:FnOk P w K mg base Y2 1 f3 fd3 ["one","other"] (B1 K Kq)) (b3:Binds K fd3 ["one","other"] []) (k3:PySem.W.keepIn K (.ref f3)=true) (m3:mg "below"=some (.ref f3)):
  FnOk P w K mg base Y2 5 f fd ["floor","across","upward","whole_time"] (Pk K F_person_ahead):=
 Dx F sc_person_ahead rfl rfl fun cdv A outer s H E hr=>
  (Zg (Zq 4 sc_person_ahead.nd Q8)
  (Zg (Zq 5 sc_person_ahead.nd (Qe (Za (Zc 3) (Za Zf Ze))))
  (Zg (Xk PassesOwn.never rfl (Jr (Zbm 0 oc m1 G1 (hr.mono (by decide)) b1 (Za (Qe (Za (Qy 1 tc.oc tc.n2) (Za (Qy 2 tc.oc tc.n2) Ze))) Ze))) (Z7 6 sc_person_ahead.nd)
   (Zg (Zq 7 sc_person_ahead.nd (Ay G2 (hr.mono (by decide)) m2 k2 b2 (Vh 1 (Vh 2 (Mx (Zc 6) Mw)))))
    (Zm (Qh ((Ki (Zr V3 (Zc 7) Q8 (Zy _)) (Ki (Yq (Jd G3 (hr.mono (by decide)) m3 k3 b3 (Za (Qe (Za Zf (Za Zf Ze))) (Za (Zc 7) Ze)))) (Ky (Yq (Jd G3 (hr.mono (by decide)) m3 k3 b3 (Za (Zc 7) (Za (Zc 5) Ze)))))))).pt
     (Zg (Zq 4 sc_person_ahead.nd (Zc 6)) (Zm (Zq 5 sc_person_ahead.nd (Zc 7)))) Z9))))
  (Zm (Zs (Zc 4))))))
end
section
variable {P:Program}{w:World}{K:PySem.W.Frag}{mg:Str->Option Value}{base:Heap}
def Zez {n c:Nat}(h:n+64<c):n+1<c:=by omega
def Ca:FnScope ["self","edge"] ["self","edge"] (Zj Up):=⟨rfl,rfl,rfl,by decide +kernel,rfl,by decide +kernel,by decide +kernel⟩
def Cb {f:Addr}{fd:FuncData}{C:Addr} (F:Fun K "faces_at" "Floor.faces_at" Up f fd) (oc:ObC K "Floor" C) (na1:NoAttr K C "hall") (na2:NoAttr K C "known_faces") {f1:Addr}{fd1:FuncData}
  (G1:FnOk P w K mg base Y2 2 f1 fd1 ["hall","kind","x","y"] (B1 K Yr)) (b1:Binds K fd1 ["hall","kind","x","y"] []) (k1:PySem.W.keepIn K (.ref f1)=true) (m1:mg "faces"=some (.ref f1)):
  FnOk P w K mg base Y2 3 f fd ["self","edge"] (Zid K Yr):=by
 refine F.ok Ca (fun vs H Q E h=>?_) (fun cdv A outer s H vs Q E hr h=>?_)
 ·obtain⟨Hf,a,g,q,k,n,ds,ks,d,v,rfl,_⟩:=h
  rfl
 ·obtain⟨Hf,a,g,q,k,n,ds,ks,d,v,rfl,e,fl,hk,ca,hn,rv,ek,el,ed,q'⟩:=h
  obtain⟨tF,pF,qF⟩:Xo (Kh Y2 P w K mg base ["self","edge"] "Floor.faces_at" (Zj Up) f cdv A outer s H E).nox E0 _ _:=Jd G1 (hr.mono (by decide)) m1 k1 b1 (Za (Lo 0 oc na1) (Za (Zz (Zc 1)) (Za (Zz (Zc 1)) (Za (Zz (Zc 1)) Ze))))
  refine⟨_,Qz (Ek (Zgu (Ip (Zez hr.units) (Qc (i:=1) rfl (.inl rfl) (by decide) (by decide)) (U6 (Qc (i:=0) rfl (.inl rfl) (by decide) (by decide)) rfl)) (by rfl)) (Jm (Zd7 (Zez hr.units) (U6 (Qc (i:=0) rfl (.inl rfl) (by decide) (by decide)) rfl) (Qc (i:=1) rfl (.inl rfl) (by decide) (by decide)) pF rfl)) P4) (Jm (Nh (Zd6 (Zez hr.units) (U6 (Qc (i:=0) rfl (.inl rfl) (by decide) (by decide)) rfl) (Qc (i:=1) rfl (.inl rfl) (by decide) (by decide)) (fun _ _=>rfl)))),?_⟩
  obtain⟨C',dx,gs,dq,ys,c1,c2,c3,c4,c5⟩:=id fl
  rw[oc.at_] at c1
  cases c1
  obtain⟨cc,zs,h1,h2,h3,h4⟩:=ca
  obtain⟨b,rfl,hb⟩:=Mt ek e rv
  match ds,el with
  |[d0,d1,d2],_=>
  refine⟨_,rfl,_,rfl,a,C,dx,gs,.ref k,rfl,e _ _ c2,oc.cls,na2,c3.kn,k,_,rfl,DGet.t h1 hb,_,rfl,?_⟩
  cases eg:Y3 cc ks with
  |some d'=>
   obtain⟨v',ev,rv'⟩:=h2.get ks eg
   have:=h4 _ _ _ ek eg
   rw[ed] at this
   cases this
   rw[ev]
   rw[if_neg (by simp)]
   refine⟨_,rfl,a,C,dx,gs,.ref k,rfl,e _ _ c2,oc.cls,na2,c3.kn,_,rfl,k,v',rfl,by rw[<-ev];exact DGet.t h1 hb,?_⟩
   exact q' v' Hf H (GrM.refl e) ⟨cc,zs,h1,h2,by lia,h4⟩ rv'
  |none=>
   rw[h2.none ks eg,if_pos (by rfl)]
   have sr:=Wu (K:=K) (N:=["self","edge"]) (ss:=[.fl a g q,.im (.tup [d0,d1,d2])]) (vs:=[.ref a,.ref b]) (m:=0) e (.cons ⟨rfl,fl.fl⟩ (.cons ⟨rfl,rv⟩ .nil)) rfl
   refine qF H _ Hf _ _ H _ sr ?_
   have ef:(Zv Yr (Zb (P9 0) (Zb 1[0]! (Zb 1[1]! (Zb 1[2]! Zh))))) [some (.fl a g q),some (.im (.tup [d0,d1,d2]))]=.ok d:=by
    show(match Yr [g,d0,d1,d2] with | .ok s=>s.toD|_=>M.bad)=.ok d
    exact Zie ed
   rw[show([DL.S.fl a g q,DL.S.im (.tup [d0,d1,d2])].map some++List.replicate 0 none)=[some (.fl a g q),some (.im (.tup [d0,d1,d2]))] from rfl,ef]
   intro v1 Hf1 H1 g1 rv1
   have hs1:H1 k=some (.dT zs):=g1.all _ _ h1
   have hz:zs.length<sizeLine:=by lia
   refine⟨_,rfl,a,C,dx,gs,.ref k,rfl,g1.all _ _ (e _ _ c2),oc.cls,na2,c3.kn,_,rfl,k,_,rfl,DPut.t hs1 (g1.all _ _ hb) hz,?_⟩
   have hk1:Hf1 k=none:=g1.ban k ⟨_,h1,fun _ q=>by cases q⟩ hk
   have nka:a≠k:=fun z=>by rw[z,hk] at c2;cases c2
   have nkb:b≠k:=fun z=>by rw[z,h1] at hb;cases hb
   refine⟨_,rfl,a,C,dx,gs,.ref k,rfl,(Zn nka).trans (g1.all _ _ (e _ _ c2)),oc.cls,na2,c3.kn,_,rfl,k,v1,rfl,?_,?_⟩
   ·have:=DGet.t (H:=upd H1 k (.dT (Jx zs ks v1))) (a:=k) (k:=ks) Zu ((Zn nkb).trans (g1.all _ _ hb))
    rw[L2.Zao,if_pos rfl] at this
    exact this
   ·refine q' v1 Hf1 _ ⟨g1.fz,fun x u hx=>?_,fun x u hx hu=>(Zn hx).trans (g1.all _ _ hu),g1.ban⟩ ⟨Za7 cc ks d,_,Zu,(h2.mono g1.fz).put ks rv1,?_,fun ds' ks' d' e1 e2=>?_⟩ rv1
    ·rw[Zn (Z3 hx hk1)];exact g1.sub _ _ hx
    ·have:=Va zs ks v1
     lia
    ·rw[Zbs eg] at e2
     split at e2
     ·rename_i ee
      subst ee
      cases e2
      rw[Ln e1 ek]
      exact ed
     ·exact h4 _ _ _ e1 e2
end
section
variable {P:Program}{w:World}{K:PySem.W.Frag}{mg:Str->Option Value}{base:Heap}
def Cc:FnScope ["floor","across","upward","now"] ["floor","across","upward","now"] (Zj W9):=⟨rfl,rfl,rfl,by decide +kernel,rfl,by decide +kernel,by decide +kernel⟩
noncomputable def F_thing_at:List S->M D:=Zkk 4
 (Zf7 (tA (DL.tB (Zl Xg (Yd 1 "Track" "due") (Zd 3))) (DL.tB (Zl Xg (Yd 2 "Track" "due") (Zd 3))))
  (Nn (DL.tB (Zv Vk (Zb (P9 0) (Zb (Xr 1 "Track" "line_ahead" Qv Zh) (Zb (Xr 2 "Track" "line_ahead" Qv Zh) Zh))))) ↑"corner" (eC .non))
 (Zf7 (DL.tB (Zl Xg (Yd 1 "Track" "due") (Zd 3)))
  (Wv Yr F_face_ahead 1 (Qq (Zb ↑"up" (Zb (Xr 1 "Track" "line_ahead" Qv Zh) (Zb (Yd 2 "Track" "square") Zh)))))
 (Zf7 (DL.tB (Zl Xg (Yd 2 "Track" "due") (Zd 3)))
  (Wv Yr F_face_ahead 2 (Qq (Zb ↑"flat" (Zb (Yd 1 "Track" "square") (Zb (Xr 2 "Track" "line_ahead" Qv Zh) Zh)))))
 (eC .non))))
def Cd {f:Addr}{fd:FuncData}{C CF:Addr} (F:Fun K "thing_at" "thing_at" W9 f fd) (tc:TkC K C) (oc:ObC K "Floor" CF) (na1:NoAttr K CF "hall") {f1 f2 f3 f4:Addr}{fd1 fd2 fd3 fd4:FuncData}
  (m1:Meth K C "line_ahead" f1) (G1:FnOk P w K mg base Y2 1 f1 fd1 ["self"] (Pk K Qv)) (b1:Binds K fd1 ["self"] [])
  (G2:FnOk P w K mg base Y2 3 f2 fd2 ["hall","x","y"] (B1 K Vk)) (b2:Binds K fd2 ["hall","x","y"] []) (k2:PySem.W.keepIn K (.ref f2)=true) (m2:mg "is_corner"=some (.ref f2))
  (m3:Meth K CF "faces_at" f3) (G3:FnOk P w K mg base Y2 3 f3 fd3 ["self","edge"] (Zid K Yr)) (b3:Binds K fd3 ["self","edge"] [])
  (G4:FnOk P w K mg base Y2 1 f4 fd4 ["track","pair"] (Pk K F_face_ahead)) (b4:Binds K fd4 ["track","pair"] []) (k4:PySem.W.keepIn K (.ref f4)=true) (m4:mg "face_ahead"=some (.ref f4)):
  FnOk P w K mg base Y2 4 f fd ["floor","across","upward","now"] (Zeu K Yr F_thing_at):=
 Zmb F Cc rfl fun cdv A outer s H E hr=>
  (D2 ((Ki (Zr (Yc hr.units) (Qy 1 tc.oc tc.n4) (Zc 3) (Zy _)) (Ky (Zr (Yc hr.units) (Qy 2 tc.oc tc.n4) (Zc 3) (Zy _))))).pt
   (Fo (Yz (Yq (Jd G2 (hr.mono (by decide)) m2 k2 b2 (Za (Lo 0 oc na1) (Za (Kt 1 tc.oc m1 G1 (hr.mono (by decide)) b1) (Za (Kt 2 tc.oc m1 G1 (hr.mono (by decide)) b1) Ze))))) Qj Q8))
  (D2 (Zr (Yc hr.units) (Qy 1 tc.oc tc.n4) (Zc 3) (Zy _))
   (A4 1 oc m3 G3 (hr.mono (by decide)) b3 G4 (hr.mono (by decide)) m4 k4 b4 (Qe (Za Qj (Za (Kt 1 tc.oc m1 G1 (hr.mono (by decide)) b1) (Za (Qy 2 tc.oc tc.n2) Ze)))))
  (D2 (Zr (Yc hr.units) (Qy 2 tc.oc tc.n4) (Zc 3) (Zy _))
   (A4 2 oc m3 G3 (hr.mono (by decide)) b3 G4 (hr.mono (by decide)) m4 k4 b4 (Qe (Za Qj (Za (Qy 1 tc.oc tc.n2) (Za (Kt 2 tc.oc m1 G1 (hr.mono (by decide)) b1) Ze)))))
  (Fo Q8))))
end
abbrev Zig:=List (List Yo×D)
def N6 (a a1 a2:Addr)(g:D)(q:Zig)(pt st mo wt:D)(r1 r2:Q2)(tn:List D)(t8 t9 t10 t11:Option S):Zi:=
 [some (.fl a g q),some (.im pt),some (.im st),some (.im mo),some (.im wt),some (.ob a1 "Track" r1),some (.ob a2 "Track" r2),some (.ow tn),t8,t9,t10,t11]
noncomputable def D8:Zi->M D:=Sc F_person_ahead (Wa 0 (Wa 5 (Wa 6 (Ax (Zd 4) Aw))))
noncomputable def Zih:Zi->M D:=J2 Zbq (Zb (Yd 5 "Track" "due") (Zb (Yd 6 "Track" "due") (Zb (Zd 4) Zh)))
noncomputable def Fp:Zi->M D:=E6 7 (Zv Jb (Zb (Zd 10) (Zb (Zl Xg (Zd 9) (Zd 4)) (Zb (Zl Zau (J2 V0 (Zb (Zd 7) Zh)) (Zd 3)) Zh))))
noncomputable def Vl:Zi->M D:=Qq (Zb (Xr 5 "Track" "place_at" Yj (Zb (Zd 9) Zh)) (Zb (Xr 6 "Track" "place_at" Yj (Zb (Zd 9) Zh)) Zh))
noncomputable def Ze0:Zi->M Bool:=DL.tB (Zl Xg (Zd 10) ↑"m")
noncomputable def Su (a a1 a2:Addr)(g:D)(q:Zig)(pt st mo wt:D):Nat->Q2->Q2->List D->M D
 |0,_,_,_=>.bad
 |n+1,r1,r2,tn=>
  (D8 (N6 a a1 a2 g q pt st mo wt r1 r2 tn none none none none)).bind fun p=>if p.isN=true then
   (Zih (N6 a a1 a2 g q pt st mo wt r1 r2 tn none none none none)).bind fun now=>
   (F_thing_at [.fl a g q,.ob a1 "Track" r1,.ob a2 "Track" r2,.im now]).bind fun th=>
   (Fp (N6 a a1 a2 g q pt st mo wt r1 r2 tn none (some (.im now)) (some (.im th)) none)).bind fun wd=>if wd.isN=true then
    (Ze0 (N6 a a1 a2 g q pt st mo wt r1 r2 tn none none (some (.im th)) none)).bind fun b=>
    (if b=true then(Vl (N6 a a1 a2 g q pt st mo wt r1 r2 tn none (some (.im now)) none none)).bind fun pl=>if few tn=true then .ok (tn++[pl]) else .bad else .ok tn).bind fun tn'=>
    (match F_pass_line r1 [now,th],F_pass_line r2 [now,th] with
    |some r1',some r2'=>Su a a1 a2 g q pt st mo wt n r1' r2' tn'
    |_,_=>.bad)
   else(Vl (N6 a a1 a2 g q pt st mo wt r1 r2 tn none (some (.im now)) none none)).bind fun pl=>.ok (.tup [wd,pl,.lst tn])
  else .ok (.tup [.str (Str.ofString "person"),p,.lst tn])
noncomputable def fW (a a1 a2:Addr)(g:D)(q:Zig)(pt st mo:D):M D:=
 (Zv Xb (Zb (Zd 0) (Zb (Zd 1) Zh)) [some (.im pt),some (.im st)]).bind fun wt=>
 (Zb 0[0]! (Zb 1[0]! (Zb (Zd 2) Zh)) [some (.im pt),some (.im st),some (.im wt)]).bind fun l1=>
 (Zb 0[1]! (Zb 1[1]! (Zb (Zd 2) Zh)) [some (.im pt),some (.im st),some (.im wt)]).bind fun l2=>
 match Ju [] l1,Ju [] l2 with
 |some r1,some r2=>Su a a1 a2 g q pt st mo wt 1000000 r1 r2 []
 |_,_=>.bad
def Zmt (K:PySem.W.Frag)(F:Addr->Addr->Addr->D->Zig->D->D->D->M D):Sp:=fun vs H Q _=>∃Hf a g q k pt st mo d rest,vs=.ref a::rest/\Same Hf H/\FlK K Hf a g q k/\Hf k=none/\H k=some (.dT [])/\Reps K Hf [pt,st,mo] rest/\(∀a1 a2,F a a1 a2 g q pt st mo=.ok d) /\
 ∀v' Hf' H',GrM k Hf H Hf' H'->Rep K Hf' d v'->Q v' H'
def Ze1:Stmt->List Stmt
 |.While _ b _ _=>b
 |_=>[]
abbrev wA (i:Nat):Stmt:=(Xj Q7).getD i (.Pass ⟨0,0,0,0⟩)
abbrev wB (i:Nat):Stmt:=(Ze1 (wA 4)).getD i (.Pass ⟨0,0,0,0⟩)
def G8 {i:Nat}{f:Zi->M O}{sd:Zi}{p:D}(h:sd[i]?=some (some (.im p))):Xw (DL.tB (Zl Xl (Zd i) (eC .non))) f Q3 sd=if p.isN=true then .ok (.nx sd) else f sd:=by
 have e:DL.tB (Zl Xl (Zd i) (eC .non)) sd=.ok (!p.isN):=by
  unfold DL.tB Zl Zd eC
  rw[h]
  cases p<;>rfl
 unfold Xw
 rw[e]
 cases p.isN<;>rfl
def Sv {f:Zi->M D}{g:Zi->M (List D)}{sd:Zi}{d:D}{l:List D}(h1:f sd=.ok d)(h2:g sd=.ok l):Zb f g sd=.ok (d::l):=by
 unfold Zb
 rw[h1]
 show M.bind (g sd) _=_
 rw[h2]
 rfl
def Pl (t:Option S):Prop:=∀s,t=some s->∃d,s=.im d
def Je:Pl none:=fun _ h=>by cases h
def Y0 {d:D}:Pl (some (.im d)):=fun _ h=>by cases h;exact⟨d,rfl⟩
def N7 {a a1 a2:Addr}{g:D}{q:Zig}{pt st mo wt:D}{r1 r2:Q2}{tn:List D}{t8 t9 t10 t11:Option S}(h8:Pl t8)(h9:Pl t9)(h10:Pl t10)(h11:Pl t11){i:Nat}{t:S}(h:(N6 a a1 a2 g q pt st mo wt r1 r2 tn t8 t9 t10 t11)[i]?=some (some t)):
  (i=0/\t=.fl a g q)\/(i=5/\t=.ob a1 "Track" r1)\/(i=6/\t=.ob a2 "Track" r2)\/t=.ow tn\/∃d,t=.im d:=by
 match i,h with
 |0,h=>cases h;exact .inl ⟨rfl,rfl⟩
 |1,h=>cases h;exact .inr (.inr (.inr (.inr ⟨_,rfl⟩)))
 |2,h=>cases h;exact .inr (.inr (.inr (.inr ⟨_,rfl⟩)))
 |3,h=>cases h;exact .inr (.inr (.inr (.inr ⟨_,rfl⟩)))
 |4,h=>cases h;exact .inr (.inr (.inr (.inr ⟨_,rfl⟩)))
 |5,h=>cases h;exact .inr (.inl ⟨rfl,rfl⟩)
 |6,h=>cases h;exact .inr (.inr (.inl ⟨rfl,rfl⟩))
 |7,h=>cases h;exact .inr (.inr (.inr (.inl rfl)))
 |8,h=>exact .inr (.inr (.inr (.inr (h8 t (Option.some.inj h)))))
 |9,h=>exact .inr (.inr (.inr (.inr (h9 t (Option.some.inj h)))))
 |10,h=>exact .inr (.inr (.inr (.inr (h10 t (Option.some.inj h)))))
 |11,h=>exact .inr (.inr (.inr (.inr (h11 t (Option.some.inj h)))))
 |i+12,h=>cases h
section
variable {a a1 a2:Addr}{g:D}{q:Zig}{pt st mo wt:D}{r1 r2:Q2}{tn:List D}{t8 t9 t10 t11:Option S}
def Bh (h8:Pl t8)(h9:Pl t9)(h10:Pl t10)(h11:Pl t11)(i:Nat)(t:S)(h:(N6 a a1 a2 g q pt st mo wt r1 r2 tn t8 t9 t10 t11)[i]?=some (some t))(o:t.own=true):∃ds,t=.ow ds:=by
 rcases N7 h8 h9 h10 h11 h with⟨_,rfl⟩|⟨_,rfl⟩|⟨_,rfl⟩|rfl|⟨d,rfl⟩
 ·cases o
 ·cases o
 ·cases o
 ·exact⟨_,rfl⟩
 ·cases o
def Zkn (h8:Pl t8)(h9:Pl t9)(h10:Pl t10)(h11:Pl t11)(n1:a≠a1)(n2:a2≠a1)(i:Nat)(t:S)(hi:i≠5)(h:(N6 a a1 a2 g q pt st mo wt r1 r2 tn t8 t9 t10 t11)[i]?=some (some t)):t.adr≠some a1/\∀z,t≠.xc z:=by
 rcases N7 h8 h9 h10 h11 h with⟨_,rfl⟩|⟨e,rfl⟩|⟨_,rfl⟩|rfl|⟨d,rfl⟩
 ·exact⟨fun z=>n1 (Option.some.inj z),fun _ z=>by cases z⟩
 ·exact absurd e hi
 ·exact⟨fun z=>n2 (Option.some.inj z),fun _ z=>by cases z⟩
 ·exact⟨(fun z=>by cases z),(fun _ z=>by cases z)⟩
 ·exact⟨(fun z=>by cases z),(fun _ z=>by cases z)⟩
def Zko (h8:Pl t8)(h9:Pl t9)(h10:Pl t10)(h11:Pl t11)(n1:a≠a2)(n2:a1≠a2)(i:Nat)(t:S)(hi:i≠6)(h:(N6 a a1 a2 g q pt st mo wt r1 r2 tn t8 t9 t10 t11)[i]?=some (some t)):t.adr≠some a2/\∀z,t≠.xc z:=by
 rcases N7 h8 h9 h10 h11 h with⟨_,rfl⟩|⟨_,rfl⟩|⟨e,rfl⟩|rfl|⟨d,rfl⟩
 ·exact⟨fun z=>n1 (Option.some.inj z),fun _ z=>by cases z⟩
 ·exact⟨fun z=>n2 (Option.some.inj z),fun _ z=>by cases z⟩
 ·exact absurd e hi
 ·exact⟨(fun z=>by cases z),(fun _ z=>by cases z)⟩
 ·exact⟨(fun z=>by cases z),(fun _ z=>by cases z)⟩
end
def WI (K:PySem.W.Frag)(H Hf:Hp)(a a1 a2 k:Addr)(g:D)(q:Zig)(pt st mo wt d:D)(n:Nat)(σ':L2.St)(H':Hp):Prop:=
 ∃Hf' r1 r2 tn t8 t9 t10 t11 m,Same Hf Hf'/\SR K (Ge H k) (fun b=>Lv (Ge H k) b/\Hf b=none) Hf' (N6 a a1 a2 g q pt st mo wt r1 r2 tn t8 t9 t10 t11) σ' H'/\Hf' k=none/\CaAt K (Ny Yr g) m Hf' H' k/\m+n<=1000000/\Pl t8/\Pl t9/\Pl t10/\Pl t11/\Su a a1 a2 g q pt st mo wt n r1 r2 tn=.ok d
section
variable {P:Program}{w:World}{K:PySem.W.Frag}{mg:Str->Option Value}{base:Heap}
abbrev Xn:List Str:=["floor","point","step","most","whole_time","across","upward","turns","person","now","thing","word"]
def sc_walk_on:FnScope Xn ["floor","point","step","most"] (Zj Q7):=⟨rfl,rfl,rfl,by decide +kernel,rfl,by decide +kernel,by decide +kernel⟩
def D9 {f:Addr}{fd:FuncData}{C CF:Addr} (F:Fun K "walk_on" "walk_on" Q7 f fd) (tc:TkC K C) (oc:ObC K "Floor" CF) {f1 f2 f3 f4 f5 f6 f7:Addr}{fd1 fd2 fd3 fd4 fd5 fd6 fd7:FuncData}
  (G1:FnOk P w K mg base Y2 1 f1 fd1 ["point","step"] (B1 K Xb)) (b1:Binds K fd1 ["point","step"] []) (k1:PySem.W.keepIn K (.ref f1)=true) (m1:mg "whole_time_of"=some (.ref f1))
  (Mk2:Mk K C f2) (G2:FnOk P w K mg base Y2 2 f2 fd2 ["self","begin","part","whole_time"] (Py K C Ju)) (b2:Binds K fd2 ["self","begin","part","whole_time"] []) (m2:mg "Track"=some (.ref C))
  (G3:FnOk P w K mg base Y2 5 f3 fd3 ["floor","across","upward","whole_time"] (Pk K F_person_ahead)) (b3:Binds K fd3 ["floor","across","upward","whole_time"] []) (k3:PySem.W.keepIn K (.ref f3)=true) (m3:mg "person_ahead"=some (.ref f3))
  (G4:FnOk P w K mg base Y2 4 f4 fd4 ["floor","across","upward","now"] (Zeu K Yr F_thing_at)) (b4:Binds K fd4 ["floor","across","upward","now"] []) (k4:PySem.W.keepIn K (.ref f4)=true) (m4:mg "thing_at"=some (.ref f4))
  (G5:FnOk P w K mg base Y2 1 f5 fd5 ["thing","is_over","may_turn"] (B1 K Jb)) (b5:Binds K fd5 ["thing","is_over","may_turn"] []) (k5:PySem.W.keepIn K (.ref f5)=true) (m5:mg "how_it_ends"=some (.ref f5))
  (m6:Meth K C "place_at" f6) (G6:FnOk P w K mg base Y2 3 f6 fd6 ["self","time"] (Pk K Yj)) (b6:Binds K fd6 ["self","time"] [])
  (G7:FnOk P w K mg base Y2 2 f7 fd7 ["track","now","thing"] (Py K C F_pass_line)) (b7:Binds K fd7 ["track","now","thing"] []) (k7:PySem.W.keepIn K (.ref f7)=true) (m7:mg "pass_line"=some (.ref f7))
  (z_min:mg "min"=none) (z_len:mg "len"=none):
  FnOk P w K mg base Y2 6 f fd ["floor","point","step","most"] (Zmt K fW):=by
 refine F.ok sc_walk_on (fun vs H Q E h=>?_) (fun cdv A outer s H vs Q E hr h=>?_)
 ·obtain⟨Hf,a,g,q,k,pt,st,mo,d,rest,rfl,_,_,_,_,rs,_⟩:=h
  have:=rs.length
  rw[List.length_cons,<-this]
  rfl
 ·obtain⟨Hf,a,g,q,k,pt,st,mo,d,rest,rfl,e,fl,hk,ck,rs,hF,kk⟩:=h
  obtain⟨tT,pT,qT⟩:B0 (Kh Y2 P w K mg base Xn "walk_on" (Zj Q7) f cdv A outer s H E).nox E0 _ (DL.tB (eC (.bl true))):=Yq Uy
  obtain⟨t1,p1,q1⟩:Tf (Kh Y2 P w K mg base Xn "walk_on" (Zj Q7) f cdv A outer s H E).nox E0 (wA 0) _:=Zq 4 sc_walk_on.nd (Jd G1 (hr.mono (by decide)) m1 k1 b1 (Za (Zc 1) (Za (Zc 2) Ze)))
  obtain⟨t2,p2,q2⟩:Bz (Kh Y2 P w K mg base Xn "walk_on" (Zj Q7) f cdv A outer s H E).nox E0 _ _:=Za (Zz (Zc 1)) (Za (Zz (Zc 2)) (Za (Zc 4) Ze))
  obtain⟨t3,p3,q3⟩:Bz (Kh Y2 P w K mg base Xn "walk_on" (Zj Q7) f cdv A outer s H E).nox E0 _ _:=Za (Zz (Zc 1)) (Za (Zz (Zc 2)) (Za (Zc 4) Ze))
  obtain⟨t4,p4,q4⟩:Tf (Kh Y2 P w K mg base Xn "walk_on" (Zj Q7) f cdv A outer s H E).nox E0 (wA 3) _:=Kl 7 sc_walk_on.nd (Kk Ze)
  obtain⟨t5,p5,q5⟩:Tf (Kh Y2 P w K mg base Xn "walk_on" (Zj Q7) f cdv A outer s H E).nox E0 (wB 0) (Z5 8 D8):=Zq 8 sc_walk_on.nd (Ay G3 (hr.mono (by decide)) m3 k3 b3 (Vh 0 (Vh 5 (Vh 6 (Mx (Zc 4) Mw)))))
  obtain⟨t6,p6,q6⟩:Tf (Kh Y2 P w K mg base Xn "walk_on" (Zj Q7) f cdv A outer s H E).nox E0 (wB 1) _:=Qh (Zr V3 (Zc 8) Q8 (Zy _)) (Uh 7 (Zm (Zs (Qe (Za Qj (Za (Zc 8) (Za (Zc 7) Ze))))))) Z9
  obtain⟨t7,p7,q7⟩:Tf (Kh Y2 P w K mg base Xn "walk_on" (Zj Q7) f cdv A outer s H E).nox E0 (wB 2) (Z5 9 Zih):=Zq 9 sc_walk_on.nd (Qw (Zet rfl) (by rfl) z_min (by rfl) (Za (Qy 5 tc.oc tc.n4) (Za (Qy 6 tc.oc tc.n4) (Za (Zc 4) Ze))))
  obtain⟨t8,p8,q8⟩:Zh7 (Kh Y2 P w K mg base Xn "walk_on" (Zj Q7) f cdv A outer s H E).nox E0 _ _:=Vh 0 (Vh 5 (Vh 6 (Mx (Zc 9) Mw)))
  obtain⟨t9,p9,q9⟩:Tf (Kh Y2 P w K mg base Xn "walk_on" (Zj Q7) f cdv A outer s H E).nox E0 (wB 4) (Z5 11 Fp):=Zq 11 sc_walk_on.nd (Zeh 7 (Jd G5 (hr.mono (by decide)) m5 k5 b5 (Za (Zc 10) (Za (Vs (Yc hr.units) (Zc 9) (Zc 4) (Zy _)) (Za (Vs Ev (Qw Ub (by rfl) z_len (by rfl) (Za (Zc 7) Ze)) (Zc 3) (Zy _)) Ze)))))
  obtain⟨t10,p10,q10⟩:Tf (Kh Y2 P w K mg base Xn "walk_on" (Zj Q7) f cdv A outer s H E).nox E0 (wB 5) (Xw _ (Rz 7 (Qr (Qq (Zb (Zd 11) (Zb Vl (Zb (Zd 7) Zh)))))) Q3):=Qh (Zr V3 (Zc 11) Q8 (Zy _)) (Uh 7 (Zm (Zs (Qe (Za (Zc 11) (Za (Qe (Za (Wb 5 tc.oc m6 G6 (hr.mono (by decide)) b6 (Za (Zc 9) Ze)) (Za (Wb 6 tc.oc m6 G6 (hr.mono (by decide)) b6 (Za (Zc 9) Ze)) Ze))) (Za (Zc 7) Ze))))))) Z9
  obtain⟨t11,p11,q11⟩:Tf (Kh Y2 P w K mg base Xn "walk_on" (Zj Q7) f cdv A outer s H E).nox E0 (wB 6) (Xw Ze0 (Vt 7 Vl) Q3):=Qh (Zr (Yc hr.units) (Zc 10) Qj (Zy _)) (Zm (Vf 7 (Qe (Za (Wb 5 tc.oc m6 G6 (hr.mono (by decide)) b6 (Za (Zc 9) Ze)) (Za (Wb 6 tc.oc m6 G6 (hr.mono (by decide)) b6 (Za (Zc 9) Ze)) Ze))))) Z9
  refine⟨_,Qz p1 (Qz (W1 sc_walk_on.nd (i:=5) rfl (.inl rfl) (Mf (dvs:=[]) (E:=E0) Mk2 G2 (hr.mono (by decide)) (by rfl) m2 b2 .nil Kx p2) rfl (.inl rfl))
   (Qz (W1 sc_walk_on.nd (i:=6) rfl (.inl rfl) (Mf (dvs:=[]) (E:=E0) Mk2 G2 (hr.mono (by decide)) (by rfl) m2 b2 .nil Kx p3) rfl (.inl rfl))
   (Qz p4 (Jm (B7 PassesOwn.never pT
    (Qz p5 (Qz p6 (Qz p7
    (Qz (W1 sc_walk_on.nd (i:=10) rfl (.inl rfl) (Ua (dvs:=[]) (E:=E0) G4 (hr.mono (by decide)) (by rfl) m4 k4 b4 .nil Kx p8) rfl (.inl rfl))
    (Qz p9 (Qz p10 (Qz p11
    (Qz (Wq (Ua (dvs:=[]) (E:=E0) G7 (hr.mono (by decide)) (by rfl) m7 k7 b7 .nil Kx (Qo (Qc (i:=5) rfl (.inl rfl) (by decide) (by decide)) (Qo (Qc (i:=9) rfl (.inl rfl) (by decide) (by decide)) (Qo (Qc (i:=10) rfl (.inl rfl) (by decide) (by decide)) X7 rfl) rfl) rfl)) rfl)
    (Jm (Wq (Ua (dvs:=[]) (E:=E0) G7 (hr.mono (by decide)) (by rfl) m7 k7 b7 .nil Kx (Qo (Qc (i:=6) rfl (.inl rfl) (by decide) (by decide)) (Qo (Qc (i:=9) rfl (.inl rfl) (by decide) (by decide)) (Qo (Qc (i:=10) rfl (.inl rfl) (by decide) (by decide)) X7 rfl) rfl) rfl)) rfl))))))))))))))),?_⟩
  have hF0:=hF 0 0
  unfold fW at hF0
  obtain⟨wt,ew,hF0⟩:=bind_ok hF0
  obtain⟨l1,el1,hF0⟩:=bind_ok hF0
  obtain⟨l2,el2,hF0⟩:=bind_ok hF0
  split at hF0
  case h_2=>cases hF0
  rename_i r1 r2 er1 er2
  have hL:∀a1 a2,Su a a1 a2 g q pt st mo wt 1000000 r1 r2 []=.ok d:=fun a1 a2=>by
   have h:=hF a1 a2
   unfold fW at h
   rw[ew] at h
   simp only[M.bind] at h
   rw[el1] at h
   simp only[M.bind] at h
   rw[el2] at h
   simp only[M.bind] at h
   rw[er1,er2] at h
   exact h
  clear hF0 hF
  have hlen:=rs.length
  have sr0:=Wu (K:=K) (N:=Xn) (ss:=[.fl a g q,.im pt,.im st,.im mo]) (vs:=.ref a::rest) (m:=8) e (.cons ⟨rfl,fl.fl⟩ (Mz rs)) rfl
  refine q1 _ _ _ _ _ _ _ sr0 (Wc (Ra ew) fun σ1 Hf1 H1 s1 sr1=>?_)
  refine Zbv (i:=5) q2 sr1 el1 rfl er1 tc.oc.at_ fun a1 σ2 Hf2 H2 s2 n1 sr2=>?_
  refine Zbv (i:=6) q3 sr2 el2 rfl er2 tc.oc.at_ fun a2 σ3 Hf3 H3 s3 n2 sr3=>?_
  refine q4 _ _ _ _ _ _ _ sr3 (Wc (show _=M.ok (O.nx _) from rfl) fun σ4 Hf4 H4 s4 sr4=>?_)
  have na1:H a1=none:=none_of sr1.all n1
  have na2:H a2=none:=none_of sr2.all n2
  have fa1:Hf a1=none:=none_of e na1
  have fa2:Hf a2=none:=none_of e na2
  have n12:a1≠a2:=fun z=>by
   obtain⟨v,y1,C'',dx'',gs'',rfl,y2,y3,y4⟩:=sr2.imS 5 (.ob a1 "Track" r1) rfl rfl
   rw[z] at y3
   rw[sr2.sub _ _ y3] at n2
   cases n2
  obtain⟨x0,x1,x2,x3,x4,x5,x6,x7⟩:=id fl
  have nA1:a≠a1:=fun z=>by rw[z,fa1] at x6;cases x6
  have nA2:a≠a2:=fun z=>by rw[z,fa2] at x6;cases x6
  have lk:Lv H k:=⟨_,ck,fun _ q=>by cases q⟩
  have w0:WI K H Hf a a1 a2 k g q pt st mo wt d 1000000 σ4 H4:=⟨Hf4,r1,r2,[],none,none,none,none,0,s1.trans (s2.trans (s3.trans s4)),sr4.less (K2 H k) fun b hb=>⟨⟨(K2 H k).lv hb.1,hb.2⟩,hb.1⟩,sr4.ban k ⟨lk,hk⟩,
   ⟨[],[],sr4.all _ _ ck,.nil,Nat.le_refl _,fun _ _ _ _ h=>by cases h⟩,Nat.le_refl _,Je,Je,Je,Je,hL a1 a2⟩
  refine⟨WI K H Hf a a1 a2 k g q pt st mo wt d,⟨_,w0⟩,fun n σ5 H5 hW=>?_⟩
  clear w0 sr0 sr1 sr2 sr3 sr4 s1 s2 s3 s4 hL er1 er2 n1 n2
  obtain⟨Hf5,r1,r2,tn,t8,t9,t10,t11,m,s5,sr5,hk5,ca5,hm,h8,h9,h10,h11,hl⟩:=hW
  cases n with
  |zero=>cases hl
  |succ n=>
  refine qT _ _ _ _ _ _ _ sr5 ?_
  show Po K E0 rQ Hf5 H5 (M.ok true) _
  intro v Hf6 H6 g6 rv
  have ev:true=v:=rv
  subst ev
  rw[if_pos rfl]
  refine⟨WI K H Hf a a1 a2 k g q pt st mo wt d n,fun σ' H' w=>⟨n,Nat.lt_succ_self n,w⟩,?_⟩
  have sr6:=sr5.gr g6
  have hk6:Hf6 k=none:=g6.ban k ca5.lv hk5
  have ca6:=ca5.mono g6.fz (fun o z=>g6.all _ _ z)
  have s6:=s5.trans g6.fz
  clear sr5 ca5 hk5 s5 g6
  unfold Su at hl
  obtain⟨p,ep,hl⟩:=bind_ok hl
  obtain⟨c6,y6,hc6,rc6,lc6,gc6⟩:=id ca6
  have srk:=sr6.keep hc6 ca6.lv hk6 (sr6.offD hc6 (Bh h8 h9 h10 h11))
  refine q5 _ _ _ _ _ _ _ srk (Wc (Ra ep) fun σ7 Hf7 H7 s7 sr7=>?_)
  have sr7:SR K _ _ Hf7 (N6 a a1 a2 g q pt st mo wt r1 r2 tn (some (.im p)) t9 t10 t11) σ7 H7:=sr7
  refine q6 _ _ _ _ _ _ _ sr7 ?_
  by_cases hp:p.isN=true
  case neg=>
   rw[if_neg hp] at hl
   cases hl
   refine Zbt (d:=.tup [.str (Str.ofString "person"),p,.lst tn]) ?_ fun v Hf' H' s fin rv=>kk v Hf' H' (Zbu (s6.trans (s7.trans s)) fin) rv
   rw[G8 (p:=p) rfl,if_neg hp]
   rfl
  rw[if_pos hp] at hl
  obtain⟨now,en,hl⟩:=bind_ok hl
  obtain⟨th,eth,hl⟩:=bind_ok hl
  obtain⟨wd,ewd,hl⟩:=bind_ok hl
  refine Wc (by rw[G8 (p:=p) rfl,if_pos hp]) fun σ8 Hf8 H8 s8 sr8=>?_
  refine q7 _ _ _ _ _ _ _ sr8 (Wc (Ra en) fun σ9 Hf9 H9 s9 sr9=>?_)
  have sr9:SR K _ _ Hf9 (N6 a a1 a2 g q pt st mo wt r1 r2 tn (some (.im p)) (some (.im now)) t10 t11) σ9 H9:=sr9
  obtain⟨hc9,hk9,sr9⟩:=sr9.back (K3 H k) fun b hb=>hb.1
  have s69:=s6.trans (s7.trans (s8.trans s9))
  have ca9:CaAt K (Ny Yr g) m Hf9 H9 k:=⟨c6,y6,hc9,rc6.mono (s7.trans (s8.trans s9)),lc6,gc6⟩
  clear srk sr6 sr7 sr8 ca6 hk6 hc6 rc6
  refine q8 _ _ _ _ _ _ _ sr9 ?_
  show Po K E0 (Zkh K) Hf9 H9 (M.ok [.fl a g q,.ob a1 "Track" r1,.ob a2 "Track" r2,.im now]) _
  intro vs Hf10 H10 g10 rs10
  show Zeu K Yr F_thing_at (vs++[]) H10 _ E0
  rw[List.append_nil]
  have ca10:=ca9.mono g10.fz (fun o z=>g10.all _ _ z)
  have hk10:Hf10 k=none:=g10.ban k ca9.lv hk9
  have sr10:=sr9.gr g10
  have s10:=s69.trans g10.fz
  refine⟨Hf10,_,a,g,q,k,m,th,rfl,g10.sub,rs10,fl.mono s10,hk10,ca10,by rw[sizeLine_eq];lia,eth,fun v' Hf11 H11 gm ca11 rv'=>?_⟩
  have hk11:Hf11 k=none:=gm.ban k ca10.lv hk10
  obtain⟨c10,y10,hc10,_⟩:=id ca10
  have sr11:SR K _ _ Hf11 (N6 a a1 a2 g q pt st mo wt r1 r2 tn (some (.im p)) (some (.im now)) (some (.im th)) t11) _ H11:=(sr10.grM gm (K3 H k) (sr10.offD hc10 (Bh Y0 Y0 h10 h11))).set_im 10 rv'
  have s11:=s10.trans gm.fz
  clear sr9 sr10 ca9 ca10 hk9 hk10 s69 s10 rs10 gm hc9 g10 hc10 rv'
  obtain⟨c6,y6,hc6,rc6,lc6,gc6⟩:=id ca11
  have srk:=sr11.keep hc6 ca11.lv hk11 (sr11.offD hc6 (Bh Y0 Y0 Y0 h11))
  refine q9 _ _ _ _ _ _ _ srk (Wc (Ra ewd) fun σ12 Hf12 H12 s12 sr12=>?_)
  have sr12:SR K _ _ Hf12 (N6 a a1 a2 g q pt st mo wt r1 r2 tn (some (.im p)) (some (.im now)) (some (.im th)) (some (.im wd))) σ12 H12:=sr12
  refine q10 _ _ _ _ _ _ _ sr12 ?_
  by_cases hw:wd.isN=true
  case neg=>
   rw[if_neg hw] at hl
   obtain⟨pl,epl,hl⟩:=bind_ok hl
   cases hl
   refine Zbt (d:=.tup [wd,pl,.lst tn]) ?_ fun v Hf' H' s fin rv=>kk v Hf' H' (Zbu (s11.trans (s12.trans s)) fin) rv
   rw[G8 (p:=wd) rfl,if_neg hw]
   have e3:=Sv (f:=Zd 11) (g:=Zb Vl (Zb (Zd 7) Zh)) (sd:=frz 7 (N6 a a1 a2 g q pt st mo wt r1 r2 tn (some (.im p)) (some (.im now)) (some (.im th)) (some (.im wd)))) (d:=wd) rfl (Sv (d:=pl) epl (Sv (d:=.lst tn) (l:=[]) rfl rfl))
   unfold Rz Qr Qq
   rw[e3]
   rfl
  rw[if_pos hw] at hl
  obtain⟨b,eb,hl⟩:=bind_ok hl
  obtain⟨tn',etn,hl⟩:=bind_ok hl
  split at hl
  case h_2=>cases hl
  rename_i r1' r2' er1 er2
  refine Wc (by rw[G8 (p:=wd) rfl,if_pos hw]) fun σ13 Hf13 H13 s13 sr13=>?_
  refine q11 _ _ _ _ _ _ _ sr13 (Wc (sd':=N6 a a1 a2 g q pt st mo wt r1 r2 tn' (some (.im p)) (some (.im now)) (some (.im th)) (some (.im wd))) ?_ fun σ14 Hf14 H14 s14 sr14=>?_)
  ·have eb':Ze0 (N6 a a1 a2 g q pt st mo wt r1 r2 tn (some (.im p)) (some (.im now)) (some (.im th)) (some (.im wd)))=.ok b:=eb
   unfold Xw
   rw[eb']
   cases b with
   |false=>cases etn;rfl
   |true=>
    rw[if_pos rfl] at etn
    obtain⟨pl,epl,etn⟩:=bind_ok etn
    split at etn
    ·rename_i hfew
     cases etn
     have e2:Vl (N6 a a1 a2 g q pt st mo wt r1 r2 tn (some (.im p)) (some (.im now)) (some (.im th)) (some (.im wd)))=.ok pl:=epl
     show(Vl (N6 a a1 a2 g q pt st mo wt r1 r2 tn (some (.im p)) (some (.im now)) (some (.im th)) (some (.im wd)))).bind (fun d=>if few tn=true then _ else _)=_
     rw[e2]
     show(if few tn=true then _ else _)=_
     rw[if_pos hfew]
     rfl
    ·cases etn
  obtain⟨hc14,hk14,sr14⟩:=sr14.back (K3 H k) fun b hb=>hb.1
  have s6_14:=s11.trans (s12.trans (s13.trans s14))
  have ca14:CaAt K (Ny Yr g) (m+1) Hf14 H14 k:=⟨c6,y6,hc14,rc6.mono (s12.trans (s13.trans s14)),lc6,gc6⟩
  clear srk sr11 sr12 sr13 ca11 hk11 hc6 rc6
  refine Zf8 (i:=5) (i1:=9) (i2:=10) sr14 rfl (Zkn Y0 Y0 Y0 Y0 nA1 n12.symm) tc.oc.at_ (none_of (K2 H k) na1) er1 (by decide) (by decide) rfl rfl hk14 ca14 fun Hf15 H15 s15 sr15 hk15 ca15=>?_
  have sr15:SR K _ _ Hf15 (N6 a a1 a2 g q pt st mo wt r1' r2 tn' (some (.im p)) (some (.im now)) (some (.im th)) (some (.im wd))) _ H15:=sr15
  refine Zf8 (i:=6) (i1:=9) (i2:=10) sr15 rfl (Zko Y0 Y0 Y0 Y0 nA2 n12) tc.oc.at_ (none_of (K2 H k) na2) er2 (by decide) (by decide) rfl rfl hk15 ca15 fun Hf16 H16 s16 sr16 hk16 ca16=>?_
  exact⟨Hf16,r1',r2',tn',_,_,_,_,m+1,s16 Hf (s15 Hf s6_14 fa1) fa2,sr16,hk16,ca16,by lia,Y0,Y0,Y0,Y0,hl⟩
end
noncomputable def Zlf:Zi->M D:=Qq (Zb (Zv Y4 (Zb 3[0]! Zh)) (Zb (Zv Y4 (Zb 3[1]! Zh)) Zh))
noncomputable def Fq (p:D):Option (List Yo):=match Zlf [none,none,none,some (.im p),none] with
 |.ok (.tup ds)=>K1 ds
 |_=>none
noncomputable def Zb5:M1->List D->Option M1
 |acc,[]=>some acc
 |acc,p::r=>match Fq p with
  |some ks=>Zb5 (U3 ks p acc) r
  |none=>none
theorem G9 (f:Str)(v:V):∀fs:List (Str×V),(Ym f v fs).length<=fs.length+1
 |[]=>Nat.le_refl _
 |(g,x)::r=>by
  unfold Ym
  split
  ·simp
  ·have:=G9 f v r
   simp only[List.length_cons]
   lia
section
variable {P:Program}{w:World}{K:PySem.W.Frag}{mg:Str->Option Value}{base:Heap}
abbrev Zlg:List Str:=["self","hall","people","person","square"]
def sc_Floor_init:FnScope Zlg ["self","hall","people"] (Zj Kp):=⟨rfl,rfl,rfl,by decide +kernel,rfl,by decide +kernel,by decide +kernel⟩
def Zjb (hall:D)(ppl:List D)(t3 t4:Option S):Zi:=[none,some (.im hall),some (.im (.lst ppl)),t3,t4]
def N8 {hall:D}{ppl:List D}{t3 t4:Option S}(h3:Pl t3)(h4:Pl t4){σ:L2.St}{b:Addr}:Zja (Zjb hall ppl t3 t4) σ b:=by
 intro i t h o
 have:∃d,t=.im d:=by
  match i,h with
  |0,h=>cases h
  |1,h=>cases h;exact⟨_,rfl⟩
  |2,h=>cases h;exact⟨_,rfl⟩
  |3,h=>exact h3 t (Option.some.inj h)
  |4,h=>exact h4 t (Option.some.inj h)
  |i+5,h=>cases h
 obtain⟨d,rfl⟩:=this
 cases o
def FI (K:PySem.W.Frag)(CF dx x k d:Addr)(gs:List (Str×V))(H Hf:Hp)(hall:D)(ppl:List D)(q:M1)(i m:Nat)(σ':L2.St)(H':Hp):Prop:=
 m=ppl.length-i/\i<=ppl.length/\∃Hf' t3 t4 ys acc,Same Hf Hf'/\SR K (Ge H x) (fun b=>Lv (Ge H x) b/\Hf b=none) Hf' (Zjb hall ppl t3 t4) σ' H'/\Pl t3/\Pl t4/\σ'[0]?=some (some (.ref x))/\Hf' x=none/\H' x=some (.ins CF dx gs)/\H' k=some (.dT [])/\Hf' k=none /\
  H' d=some (.dT ys)/\Hf' d=none/\OwnL K (Ge H x) Hf' H' acc ys/\acc.length<=i/\(∀p∈acc,p.2.length<=i)/\Zb5 acc (ppl.drop i)=some q
def Tt {f:Addr}{fd:FuncData}{CF:Addr} (F:Fun K "__init__" "Floor.__init__" Kp f fd) (oc:ObC K "Floor" CF) (na1:NoAttr K CF "hall") (na2:NoAttr K CF "known_faces") (na3:NoAttr K CF "by_square") {f1:Addr}{fd1:FuncData}
  (G1:FnOk P w K mg base Y2 1 f1 fd1 ["place"] (B1 K Y4)) (b1:Binds K fd1 ["place"] []) (k1:PySem.W.keepIn K (.ref f1)=true) (m1:mg "square_of"=some (.ref f1)):
  FnOk P w K mg base Y2 2 f fd ["self","hall","people"] (Zkl K CF (Zb5 [])):=by
 refine F.ok sc_Floor_init (fun vs H Q E h=>?_) (fun cdv A outer s H vs Q E hr h=>?_)
 ·obtain⟨Hf,x,dx,hall,ppl,q,vh,vp,rfl,_⟩:=h
  rfl
 ·obtain⟨Hf,x,dx,hall,ppl,q,vh,vp,rfl,e,hfx,hx,rh,rp,hlen,hq,kk⟩:=h
  obtain⟨tk,pk,qk⟩:Xo (Kh Y2 P w K mg base Zlg "Floor.__init__" (Zj Kp) f cdv A outer s H E).nox E0 _ Zlf:=Qe (Za (Jd G1 (hr.mono (by decide)) m1 k1 b1 (Za (Zz (Zc 3)) Ze)) (Za (Jd G1 (hr.mono (by decide)) m1 k1 b1 (Za (Zz (Zc 3)) Ze)) Ze))
  refine⟨_,Qz (Mc (Qc (i:=0) rfl (.inl rfl) (by decide) (by decide)) (Qc (i:=1) rfl (.inl rfl) (by decide) (by decide)) rfl)
   (Qz (Mc (Qc (i:=0) rfl (.inl rfl) (by decide) (by decide)) Af rfl)
   (Qz (Mc (Qc (i:=0) rfl (.inl rfl) (by decide) (by decide)) Af rfl)
   (Jm (Db PassesOwn.never rfl (Zdn (Qc (i:=2) rfl (.inl rfl) (by decide) (by decide))) (P5 (i:=3) sc_Floor_init.nd rfl (.inl rfl) (.inl rfl))
    (Qz (W1 sc_Floor_init.nd (i:=4) rfl (.inl rfl) pk rfl (.inl rfl))
    (Jm (Wq (Zam PySem.F.plainAttrs_list PySem.F.slot_list_append PySem.F.type_list_append Wr (Zbx (Zez hr.units) (U6 (Qc (i:=0) rfl (.inl rfl) (by decide) (by decide)) rfl) (Qc (i:=4) rfl (.inl rfl) (by decide) (by decide)) (Df X7) ⟨rfl,rfl,rfl,rfl⟩) (Qo (Qc (i:=3) rfl (.inl rfl) (by decide) (by decide)) X7 rfl)) rfl))))))),?_⟩
  obtain⟨ap,xs,rfl,hap,rxs⟩:=rep_lst.mp rp
  have st:=Lm (K:=K) (N:=Zlg) (C:=CF) (Hf:=Hf) (H:=H) (r:=[]) (ds:=[hall,.lst ppl]) (a:=x) (vs:=[vh,.ref ap]) (m:=2) e hfx ⟨dx,[],hx,.nil⟩ (Reps.cons rh (Reps.cons rp Reps.nil)) rfl
  have sr0:SR K (Ge H x) (fun b=>Lv (Ge H x) b/\Hf b=none) Hf (Zjb hall ppl none none) (X6 Zlg [.ref x,vh,.ref ap]) H:=st.sr
  refine⟨vh,rfl,.ref x,rfl,x,CF,dx,[],rfl,hx,oc.cls,na1,by decide,?_⟩
  have sr1:=sr0.mut (b:=x) (o:=.ins CF dx (Ym "hall" vh [])) (K3 H x) hfx (N8 Je Je)
  intro k hk
  have xk:x≠k:=by rintro rfl;rw[Zu] at hk;cases hk
  have hk0:H k=none:=by rw[Zn xk.symm] at hk;exact hk
  refine⟨.ref x,rfl,x,CF,dx,_,rfl,(Zn xk).trans Zu,oc.cls,na2,by have:=G9 "hall" vh [];simp only[List.length_nil] at this;lia,?_⟩
  have sr2:=sr1.gr (Gr.new sr1.sub hk (.dT []))
  have sr3:=sr2.mut (b:=x) (o:=.ins CF dx (Ym "known_faces" (.ref k) (Ym "hall" vh []))) (K3 H x) hfx (N8 Je Je)
  intro d hd
  have xd:x≠d:=by rintro rfl;rw[Zu] at hd;cases hd
  have kd:k≠d:=by rintro rfl;rw[Zn xk.symm,Zu] at hd;cases hd
  have hd0:H d=none:=by rw[Zn xd.symm,Zn kd.symm,Zn xd.symm] at hd;exact hd
  refine⟨.ref x,rfl,x,CF,dx,_,rfl,(Zn xd).trans Zu,oc.cls,na3,by have:=G9 "hall" vh [];have:=G9 "known_faces" (.ref k) (Ym "hall" vh []);simp only[List.length_nil] at *;lia,?_⟩
  have sr4:=sr3.gr (Gr.new sr3.sub hd (.dT []))
  have sr5:=sr4.mut (b:=x) (o:=.ins CF dx (Ym "by_square" (.ref d) (Ym "known_faces" (.ref k) (Ym "hall" vh [])))) (K3 H x) hfx (N8 Je Je)
  have g1:(Ym "by_square" (.ref d) (Ym "known_faces" (.ref k) (Ym "hall" vh []))).lookup ("hall":Str)=some vh:=by
   rw[Qx,if_neg (by decide),Qx,if_neg (by decide),Qx,if_pos rfl]
  have g2:(Ym "by_square" (.ref d) (Ym "known_faces" (.ref k) (Ym "hall" vh []))).lookup ("by_square":Str)=some (.ref d):=by rw[Qx,if_pos rfl]
  have g3:(Ym "by_square" (.ref d) (Ym "known_faces" (.ref k) (Ym "hall" vh []))).lookup ("known_faces":Str)=some (.ref k):=by rw[Qx,if_neg (by decide),Qx,if_pos rfl]
  have g4:(Ym "by_square" (.ref d) (Ym "known_faces" (.ref k) (Ym "hall" vh []))).lookup ("people_at":Str)=none:=by
   rw[Qx,if_neg (by decide),Qx,if_neg (by decide),Qx,if_neg (by decide)];rfl
  have g5:(Ym "by_square" (.ref d) (Ym "known_faces" (.ref k) (Ym "hall" vh []))).lookup ("faces_at":Str)=none:=by
   rw[Qx,if_neg (by decide),Qx,if_neg (by decide),Qx,if_neg (by decide)];rfl
  generalize Ym "by_square" (.ref d) (Ym "known_faces" (.ref k) (Ym "hall" vh []))=gs at *
  refine⟨.ref ap,rfl,ap,rfl,⟨xs,sr5.sub.seq hap⟩,FI K CF dx x k d gs H Hf hall ppl q,⟨_,rfl,Nat.zero_le _,Hf,none,none,[],[],Same.refl _,sr5,Je,Je,rfl,hfx,Zu,?_,none_of e hk0,?_,none_of e hd0,⟨.nil,by simp⟩,Nat.le_refl _,(fun _ h=>by cases h),hq⟩,fun i m σ' H' hI=>?_⟩
  ·rw[Zn xk.symm,Zn kd,Zn xk.symm,Zu]
  ·rw[Zn xd.symm,Zu]
  clear sr0 sr1 sr2 sr3 sr4 sr5 st hk hd
  obtain⟨rfl,hi,Hf',t3,t4,ys,acc,s',sr,h3,h4,σ0,fx,Hx,Hk,fk,Hd,fdd,own,la,ll,hb⟩:=hI
  have sq:SqL K H' ap xs:=sr.sub.seq (s'.seq hap)
  have lx:=rxs.length
  by_cases hlt:i<ppl.length
  case neg=>
   have ei:i=ppl.length:=by lia
   left
   refine⟨⟨xs,sq,by lia⟩,?_⟩
   rw[ei,List.drop_length] at hb
   cases hb
   have nS:∀b,Lv H b->b≠x->¬(b=x\/b=d\/∃p∈ys,p.2=V.ref b):=fun b hb hx' z=>by
    rcases z with z|z|⟨p,z1,z2⟩
    ·exact hx' z
    ·rw[z] at hb;exact hb.nn hd0
    ·obtain⟨y,_,a',xs',e2,_,_,e5,_⟩:=Ko own.1 z1
     rw[z2] at e2
     cases e2
     rw[Js hx'] at e5
     exact hb.nn e5
   refine kk (Zdi Hf' H' fun b=>b=x\/b=d\/∃p∈ys,p.2=V.ref b) H' k (s'.trans Si) (Zev sr.sub) (fun b u hb hu=>sr.all b u ((Js hb).trans hu)) (fun b hl hf hne=>?_) ?_ ?_ Hk hk0
   ·obtain⟨o,o1,o2⟩:=id hl
    exact A5 (nS b hl hne) (sr.ban b ⟨⟨o,(Js hne).trans o1,o2⟩,hf⟩)
   ·have sm:=s'.trans (Si (Hf:=Hf') (H:=H') (S:=fun b=>b=x\/b=d\/∃p∈ys,p.2=V.ref b))
    refine⟨CF,dx,gs,d,ys,oc.at_,D3 sr.sub (.inl rfl) Hx,⟨⟨vh,g1,rh.mono sm⟩,g2,g3,g4,g5⟩,D3 sr.sub (.inr (.inl rfl)) Hd,?_⟩
    have:∀{l:M1}{l':List (List Yo×V)},Paired (OwnP K (Ge H x) Hf' H') l l'->(∀p∈l',p∈ys)->RepKV K (Zdi Hf' H' fun b=>b=x\/b=d\/∃p∈ys,p.2=V.ref b) (qD l) l':=by
     intro l l' hl hm
     induction hl with
     |nil=>exact .nil
     | @cons y z r r' hp ht ih=>
      obtain⟨e1,a',xs',e2,e3,e4,e5,e6⟩:=hp
      refine .cons ⟨e1,?_⟩ (ih fun p hp=>hm p (List.mem_cons_of_mem _ hp))
      show Rep K _ (.lst y.2) z.2
      rw[e2]
      exact rep_lst.mpr ⟨a',xs',rfl,SqL.of (D3 sr.sub (.inr (.inr ⟨z,hm z (List.mem_cons_self ..),e2⟩)) e3),e6.mono Si⟩
    exact this own.1 fun _ h=>h
   ·refine A5 (fun z=>?_) fk
    rcases z with z|z|⟨p,z1,z2⟩
    ·exact xk z.symm
    ·exact kd z
    ·obtain⟨y,_,a',xs',e2,e3,_⟩:=Ko own.1 z1
     rw[z2] at e2
     cases e2
     rw[Hk] at e3
     cases e3
  right
  have hb':Zb5 acc (ppl[i]::ppl.drop (i+1))=some q:=by rw[<-List.drop_eq_getElem_cons hlt];exact hb
  unfold Zb5 at hb'
  split at hb'
  case h_2=>cases hb'
  rename_i ks eks
  unfold Fq at eks
  split at eks
  case h_2=>cases eks
  rename_i ds eds
  obtain⟨y,ey,ry⟩:=rxs.get (List.getElem?_eq_getElem hlt)
  refine⟨⟨xs,y,sq,ey⟩,FI K CF dx x k d gs H Hf hall ppl q (i+1) (ppl.length-(i+1)),fun σ' H' w=>⟨_,by lia,w⟩,fun v H'' hy=>?_⟩
  obtain⟨rfl,hy⟩:=hy
  have ev:=hy _ sq
  rw[ey] at ev
  cases ev
  have ry':=ry.mono s'
  have sr1:SR K _ _ Hf' (Zjb hall ppl (some (.im ppl[i])) t4) _ H'':=sr.set_im 3 ry'
  refine qk _ _ _ _ _ _ _ sr1 ?_
  rw[show Zlf (Zjb hall ppl (some (.im ppl[i])) t4)=.ok (.tup ds) from eds]
  intro v4 Hf2 H2 g6 rv4
  have sr2:SR K _ _ Hf2 (Zjb hall ppl (some (.im ppl[i])) (some (.im (.tup ds)))) _ H2:=(sr1.gr g6).set_im 4 rv4
  obtain⟨b,rfl,hb4⟩:=Mt eks g6.sub rv4
  have own2:=own.gr g6
  have hsz:=sizeLine_eq
  have lk:Lv H'' k:=⟨_,Hk,fun _ q=>by cases q⟩
  have ldd:Lv H'' d:=⟨_,Hd,fun _ q=>by cases q⟩
  have lys:=Paired.length own.1
  obtain⟨w3,sw3,rw3⟩:=sr2.im 3 ppl[i] rfl
  obtain⟨w4,sw4,rw4⟩:=sr2.im 4 (.tup ds) rfl
  obtain⟨b',rfl,hb4⟩:=Mt eks sr2.sub rw4
  have σ0':(List.set (List.set σ' 3 (some y)) 4 (some (V.ref b)))[0]?=some (some (.ref x)):=by rw[List.getElem?_set_ne (by decide),List.getElem?_set_ne (by decide)];exact σ0
  refine⟨.ref x,σ0',x,CF,dx,gs,.ref d,rfl,g6.all _ _ Hx,oc.cls,na3,g2,d,rfl,.inr ⟨ys,.inl (g6.all _ _ Hd)⟩,_,sw4,?_⟩
  refine⟨Nat.zero_le _,fun pl hpl=>?_⟩
  have own3:=own2.gr (Gr.new sr2.sub hpl (.lst []))
  have sr3:=sr2.gr (Gr.new sr2.sub hpl (.lst []))
  have nx:x≠pl:=fun z=>by rw[<-z,g6.all _ _ Hx] at hpl;cases hpl
  have nk:k≠pl:=fun z=>by rw[<-z,g6.all _ _ Hk] at hpl;cases hpl
  have nd:d≠pl:=fun z=>by rw[<-z,g6.all _ _ Hd] at hpl;cases hpl
  have nb:b'≠pl:=fun z=>by rw[<-z,hb4] at hpl;cases hpl
  have Hx3:upd H2 pl (.lst []) x=some (.ins CF dx gs):=(Zn nx).trans (g6.all _ _ Hx)
  have Hk3:upd H2 pl (.lst []) k=some (.dT []):=(Zn nk).trans (g6.all _ _ Hk)
  have Hd3:upd H2 pl (.lst []) d=some (.dT ys):=(Zn nd).trans (g6.all _ _ Hd)
  have s2:=s'.trans g6.fz
  have fx2:Hf2 x=none:=g6.ban x (Sf Hx) fx
  have fk2:Hf2 k=none:=g6.ban k lk fk
  have fd2:Hf2 d=none:=g6.ban d ldd fdd
  refine⟨ys,ks,b',rfl,Hd3,(Zn nb).trans hb4,by lia,fun v ev=>?_,fun en=>?_⟩
  ·obtain⟨a',xs1,rfl,e3,e4,e5,⟨pp,g1',g2'⟩,fut⟩:=own3.there ev
   have l1:=ll pp g1'
   refine⟨.inl ⟨rfl,xs1,SqL.of e3⟩,w3,sw3,a',xs1,w3,rfl,rfl,e3,by lia,?_⟩
   have n1:x≠a':=fun z=>by rw[<-z,Hx3] at e3;cases e3
   have n2:k≠a':=fun z=>by rw[<-z,Hk3] at e3;cases e3
   have n3:d≠a':=fun z=>by rw[<-z,Hd3] at e3;cases e3
   exact⟨rfl,hlt,Hf2,_,_,ys,U3 ks ppl[i] acc,s2,sr3.mut e5 e4 (N8 Y0 Y0),Y0,Y0,σ0',fx2,(Zn n1).trans Hx3,(Zn n2).trans Hk3,fk2,(Zn n3).trans Hd3,fd2,⟨fut _ _ rw3,own3.2⟩,by have:=Sh (ks:=ks) (p:=ppl[i]) (acc:=acc);lia,Nz ll,hb'⟩
  ·have epl:upd (upd H2 pl (.lst [])) d (.dT (Jx ys ks (.ref pl))) pl=some (.lst []):=(Zn nd.symm).trans Zu
   refine⟨.inl ⟨rfl,[],SqL.of epl⟩,w3,sw3,pl,[],w3,rfl,rfl,epl,by rw[sizeLine_eq];decide,?_⟩
   have h0:Ge H x pl=none:=none_of sr2.all hpl
   have hfp:Hf2 pl=none:=none_of sr2.sub hpl
   have eH:upd (upd (upd H2 pl (.lst [])) d (.dT (Jx ys ks (.ref pl)))) pl (.lst ([]++[w3]))=upd (upd H2 d (.dT (Jx ys ks (.ref pl)))) pl (.lst [w3]):=by
    funext c
    by_cases c1:c=pl
    ·subst c1;rw[Zu,Zu];rfl
    ·rw[Zn c1,Zn c1]
     by_cases c2:c=d
     ·subst c2;rw[Zu,Zu]
     ·rw[Zn c2,Zn c2,Zn c1]
   have sr4:=(sr3.mut (b:=d) (o:=.dT (Jx ys ks (.ref pl))) (none_of (K2 H x) hd0) fd2 (N8 Y0 Y0)).mut (b:=pl) (o:=.lst ([]++[w3])) h0 hfp (N8 Y0 Y0)
   refine⟨rfl,hlt,Hf2,_,_,Jx ys ks (.ref pl),U3 ks ppl[i] acc,s2,sr4,Y0,Y0,σ0',fx2,?_,?_,fk2,?_,fd2,?_,by have:=Sh (ks:=ks) (p:=ppl[i]) (acc:=acc);lia,Nz ll,hb'⟩
   ·rw[Zn nx,Zn xd];exact Hx3
   ·rw[Zn nk,Zn kd];exact Hk3
   ·rw[Zn nd,Zu]
   ·rw[eH]
    exact own2.new en (g6.all _ _ Hd) hpl h0 hfp rw3
end
open Classical in
noncomputable def F_walk:List D->M S
 |[hall,.lst ppl,pt,st,mo]=>(match Zb5 [] ppl with
  |some q=>if h:ppl.length<=1000000/\∃d,∀a a1 a2,fW a a1 a2 hall (qD q) pt st mo=.ok d then .ok (.im h.2.choose) else .bad
  |none=>.bad)
 |_=>.bad
def Oh {hall pt st mo d:D}{ppl:List D}{q:M1}(hq:Zb5 [] ppl=some q)(hl:ppl.length<=1000000)(h:∀a a1 a2,fW a a1 a2 hall (qD q) pt st mo=.ok d):F_walk [hall,.lst ppl,pt,st,mo]=.ok (.im d):=by
 have hh:ppl.length<=1000000/\∃d,∀a a1 a2,fW a a1 a2 hall (qD q) pt st mo=.ok d:=⟨hl,d,h⟩
 simp only[F_walk,hq]
 rw[dif_pos hh]
 have:=hh.2.choose_spec 0 0 0
 rw[h 0 0 0] at this
 cases this
 rfl
def Lr {ds:List D}{s:S}(h:F_walk ds=.ok s):∃hall ppl pt st mo q d,ds=[hall,.lst ppl,pt,st,mo]/\Zb5 [] ppl=some q/\ppl.length<=1000000/\(∀a a1 a2,fW a a1 a2 hall (qD q) pt st mo=.ok d)/\s=.im d:=by
 unfold F_walk at h
 split at h
 ·rename_i hall ppl pt st mo
  split at h
  ·rename_i q hq
   split at h
   ·rename_i hh
    cases h
    exact⟨hall,ppl,pt,st,mo,q,_,rfl,hq,hh.1,hh.2.choose_spec,rfl⟩
   ·cases h
  ·cases h
 ·cases h
section
variable {P:Program}{w:World}{K:PySem.W.Frag}{mg:Str->Option Value}{base:Heap}
abbrev Zb6:List Str:=["hall","people","point","step","most"]
def Ze2:FnScope Zb6 Zb6 (Zj D5):=⟨rfl,rfl,rfl,by decide +kernel,rfl,by decide +kernel,by decide +kernel⟩
def Zb7 {f:Addr}{fd:FuncData}{CF:Addr} (F:Fun K "walk" "walk" D5 f fd) {f1 f2:Addr}{fd1 fd2:FuncData}
  (Mk1:Mk K CF f1) (G1:FnOk P w K mg base Y2 2 f1 fd1 ["self","hall","people"] (Zkl K CF (Zb5 []))) (b1:Binds K fd1 ["self","hall","people"] []) (m1:mg "Floor"=some (.ref CF))
  (G2:FnOk P w K mg base Y2 6 f2 fd2 ["floor","point","step","most"] (Zmt K fW)) (b2:Binds K fd2 ["floor","point","step","most"] []) (k2:PySem.W.keepIn K (.ref f2)=true) (m2:mg "walk_on"=some (.ref f2)):
  FnOk P w K mg base Y2 7 f fd Zb6 (B1 K F_walk):=by
 refine F.ok Ze2 (fun vs H Q E h=>?_) (fun cdv A outer s H vs Q E hr h=>?_)
 ·obtain⟨Hf,ds,s,e,rs,hF,_⟩:=h
  obtain⟨hall,ppl,pt,st,mo,q,d,rfl,_⟩:=Lr hF
  rw[<-rs.length]
  rfl
 ·obtain⟨Hf,ds,s',e,rs,hF,kk⟩:=h
  obtain⟨hall,ppl,pt,st,mo,q,d,rfl,hq,hl,hw,rfl⟩:=Lr hF
  refine⟨_,Jm (Nh (Ua (dvs:=[]) (E:=E0) G2 (hr.mono (by decide)) (by rfl) m2 k2 b2 .nil Kx
   (Qo (Mf (dvs:=[]) (E:=E0) Mk1 G1 (hr.mono (by decide)) (by rfl) m1 b1 .nil Kx (Qo (Qc (i:=0) rfl (.inl rfl) (by decide) (by decide)) (Qo (Qc (i:=1) rfl (.inl rfl) (by decide) (by decide)) X7 rfl) rfl))
   (Qo (Qc (i:=2) rfl (.inl rfl) (by decide) (by decide)) (Qo (Qc (i:=3) rfl (.inl rfl) (by decide) (by decide)) (Qo (Qc (i:=4) rfl (.inl rfl) (by decide) (by decide)) X7 rfl) rfl) rfl) rfl))),?_⟩
  obtain⟨v0,_,rfl,r0,rs⟩:=reps_cons.mp rs
  obtain⟨v1,_,rfl,r1,rs⟩:=reps_cons.mp rs
  obtain⟨v2,_,rfl,r2,rs⟩:=reps_cons.mp rs
  obtain⟨v3,_,rfl,r3,rs⟩:=reps_cons.mp rs
  obtain⟨v4,_,rfl,r4,rs⟩:=reps_cons.mp rs
  cases reps_nil.mp rs
  refine⟨v0,rfl,v1,rfl,fun x dx hx hdx hne=>?_⟩
  have sm:Same H (upd (upd H dx (.own x)) x (.ins CF dx [])):=(Qs hdx _).trans (Qs ((Zn hne.symm).trans hx) _)
  refine⟨Hf,x,dx,hall,ppl,q,v0,v1,rfl,e.trans sm,none_of e hx,Zu,r0,r1,hl,hq,fun Hf' H' k s1 s2 al ba fl hk ck nk=>⟨rfl,v2,rfl,v3,rfl,v4,rfl,?_⟩⟩
  have nk0:H k=none:=none_of sm nk
  refine⟨Hf',x,hall,qD q,k,pt,st,mo,d,[v2,v3,v4],rfl,s2,fl,hk,ck,Reps.cons (r2.mono s1) (Reps.cons (r3.mono s1) (Reps.cons (r4.mono s1) Reps.nil)),fun a1 a2=>hw x a1 a2,fun v' Hf2 H2 gm rv=>kk v' Hf2 H2 ⟨s1.trans gm.fz,gm.sub,fun b u hb=>?_,fun b hb hn=>?_⟩ rv⟩
  ·have bx:b≠x:=fun z=>by rw[z,hx] at hb;cases hb
   have bk:b≠k:=fun z=>by rw[z,nk0] at hb;cases hb
   exact gm.all b u bk (al b u bx (sm _ _ hb))
  ·obtain⟨o,ho,no⟩:=id hb
   have bx:b≠x:=fun z=>by rw[z,hx] at ho;cases ho
   exact gm.ban b ⟨o,al b o bx (sm _ _ ho),no⟩ (ba b (sm.lv hb) hn bx)
end
section
variable {P:Program}{w:World}{K:PySem.W.Frag}{mg:Str->Option Value}{base:Heap}
noncomputable def Yf:List D->M S:=Ue 2 0
  (Qr (Zl Yu (Zl Z8 (Do (Zd 0) (Xq (Zd 1)) (Xq (Zl Z8 (Zd 1) ↑1))) (Xh (Zb ↑0 Zh))) ↑0))
def Oi:FnScope ["_law_script","_law_k"] ["_law_script","_law_k"] (Zj Sk):=⟨rfl,rfl,rfl,by decide +kernel,rfl,by decide +kernel,by decide +kernel⟩
def Oj (d:Dm K mg "_law_cell" Sk)  : Cl P w K mg base 1 "_law_cell" ["_law_script","_law_k"] Yf:=
 d.cl (by trivial) fun _ _ F=>Jl F Oi rfl rfl fun cdv A outer s H E hr=>
  (Zm (Zs (Zz (Zo Qp (V1 (Zc 0) (Jq (Zc 1)) (Jq (Zo Qp (Zc 1) Zf))) (X8 (Za Zf Ze))))))
noncomputable def Qd:List D->M S:=Ue 2 4
  (Zx (Rx 2 (Rw Zh))
   (Zx (Z5 3 (Zl Qa (Zl Qb (Zl Z8 (Zl Qa (Zd 0) ↑1999999973) ↑31) ↑765432101) ↑1999999973))
   (Zx (Z5 4 ↑0)
   (Zx (Xw (tO (tB (Zl Zau (Zd 0) ↑0)) (tB (Zl Zj6 (Zd 0) (Zl Zeb ↑10 ↑18)))) (Z5 4 (J2 Wy (Zb (Zd 0) Zh))) Q3)
   (Zx (Ka (Yg (Zb (Zd 1) Zh)) (Xf 5) (Zx (Z5 3 (Zl Qa (Zl Z8 (Zl Z8 (Zl Qb (Zd 3) (Zl Z8 (Zl Qa (Zd 3) ↑65521) ↑40487)) (Zl Qb ↑7 (Zd 5))) ↑5) ↑1999999973))
   (Zx (Vt 2 (Zl Yu (Xh (Zb (Zd 3) (Zb (Zl Qa (Zd 4) ↑1000000) Zh))) (J2 Iu (Zb (Zl Gh (Zd 4) ↑0) Zh))))
   (Z5 4 (Zl Yb (Zd 4) ↑1000000)))))
   (An 2))))))
def sc_l_numbers:FnScope ["_law_cell_here","_law_many","_law_found","_law_number","_law_digits","_law_k"] ["_law_cell_here","_law_many"] (Zj Wf):=⟨rfl,rfl,rfl,by decide +kernel,rfl,by decide +kernel,by decide +kernel⟩
def Bi (d:Dm K mg "_law_numbers" Wf) (z_abs:mg "abs"=none) (z_range:mg "range"=none) (z_int:mg "int"=none):Cl P w K mg base 1 "_law_numbers" ["_law_cell_here","_law_many"] Qd:=
 d.cl (by trivial) fun _ _ F=>Jl F sc_l_numbers rfl rfl fun cdv A outer s H E hr=>
  (Zg (Kl 2 sc_l_numbers.nd (Kk Ze))
   (Zg (Zq 3 sc_l_numbers.nd (Zo Qk (Zo Qn (Zo Qp (Zo Qk (Zc 0) Zf) Zf) Zf) Zf))
   (Zg (Zq 4 sc_l_numbers.nd Zf)
   (Zg (Qh ((Uc (Zr Ev (Zc 0) Zf (Zy _)) (Vc (Zr Zj7 (Zc 0) (Zo Zhq Zf Zf) (Zy _))))).pt (Zm (Zq 4 sc_l_numbers.nd (Qw Nm (by rfl) z_abs (by rfl) (Za (Zc 0) Ze)))) Z9)
   (Zg (Xk PassesOwn.never rfl (Jg (by rfl) z_range (Za (Zc 1) Ze)) (Z7 5 sc_l_numbers.nd) (Zg (Zq 3 sc_l_numbers.nd (Zo Qk (Zo Qp (Zo Qp (Zo Qn (Zc 3) (Zo Qp (Zo Qk (Zc 3) Zf) Zf)) (Zo Qn Zf (Zc 5))) Zf) Zf))
   (Zg (Vf 2 (Jw (X8 (Za (Zc 3) (Za (Zo Qk (Zc 4) Zf) Ze))) (Vz Zhr (by rfl) z_int (by rfl) (Za (Vs Gi (Zc 4) Zf (Zy _)) Ze)) (fun _ _=>rfl)))
   (Zm (Zq 4 sc_l_numbers.nd (Zo Yw (Zc 4) Zf))))))
   (Zm (Ry 2)))))))
noncomputable def Qf:List D->M S:=Ue 2 2
  (Zx (Mo 2 3 (Zb (J2 Wy (Zb (Zd 0) Zh)) (Zb (Zd 1) Zh)))
   (Zx (W3 (tB (Zl Gh (Zd 3) ↑0)) (Mo 2 3 (Zb (Zd 3) (Zb (Zl Qa (Zd 2) (Zd 3)) Zh))))
   (Qr (Qq (Zb (Zl Yb (Zd 0) (Zd 2)) (Zb (Zl Yb (Zd 1) (Zd 2)) Zh))))))
def sc_l_lowest:FnScope ["_law_top","_law_bottom","_law_high","_law_low"] ["_law_top","_law_bottom"] (Zj Ga):=⟨rfl,rfl,rfl,by decide +kernel,rfl,by decide +kernel,by decide +kernel⟩
def Ce (d:Dm K mg "_law_lowest" Ga) (z_abs:mg "abs"=none):Cl P w K mg base 1 "_law_lowest" ["_law_top","_law_bottom"] Qf:=
 d.cl (by trivial) fun _ _ F=>Jl F sc_l_lowest rfl rfl fun cdv A outer s H E hr=>
  (Zg (Ez 2 3 rfl sc_l_lowest.nd (Za (Qw Nm (by rfl) z_abs (by rfl) (Za (Zc 0) Ze)) (Za (Zc 1) Ze)) (by rfl))
   (Zg (Lc PassesOwn.never (Zr Gi (Zc 3) Zf (Zy _)) (Zm (Ez 2 3 rfl sc_l_lowest.nd (Za (Zc 3) (Za (Zo Qk (Zc 2) (Zc 3)) Ze)) (by rfl))))
   (Zm (Zs (Qe (Za (Zo Yw (Zc 0) (Zc 2)) (Za (Zo Yw (Zc 1) (Zc 2)) Ze)))))))
noncomputable def Kv:List D->M S:=Ue 2 3
  (Zx (Rx 2 (Rw Zh))
   (Zx (Ka (Yg (Zb (Zl Z8 (Zd 0) ↑1) Zh)) (Xf 3) (Am 2 (V2 (Yg (Zb (Zd 1) Zh)) 1 [3] (Xf 0) (Qq (Zb ↑"up" (Zb (Zd 1) (Zb (Zd 0) Zh)))))))
   (Zx (Ka (Yg (Zb (Zl Z8 (Zd 1) ↑1) Zh)) (Xf 4) (Am 2 (V2 (Yg (Zb (Zd 0) Zh)) 1 [4] (Xf 0) (Qq (Zb ↑"flat" (Zb (Zd 0) (Zb (Zd 1) Zh)))))))
   (An 2))))
def sc_l_edges:FnScope ["_law_width","_law_height","_law_found","_law_x","_law_y"] ["_law_width","_law_height"] (Zj X0):=⟨rfl,rfl,rfl,by decide +kernel,rfl,by decide +kernel,by decide +kernel⟩
def Ea (d:Dm K mg "_law_edges" X0) (z_range:mg "range"=none):Cl P w K mg base 1 "_law_edges" ["_law_width","_law_height"] Kv:=
 d.cl (by trivial) fun _ _ F=>Jl F sc_l_edges rfl rfl fun cdv A outer s H E hr=>
  (Zg (Kl 2 sc_l_edges.nd (Kk Ze))
   (Zg (Xk PassesOwn.never rfl (Jg (by rfl) z_range (Za (Zo Qp (Zc 0) Zf) Ze)) (Z7 3 sc_l_edges.nd) (Zm (E4 2 (U8 (Nc:=["_law_y","_law_x"]) rfl (Ui (fun y hy hf=>X9 (Pv (sc:=Zj X0) (by decide +kernel) y hy hf))) (Zei (sc:=Zj X0) rfl rfl (by decide +kernel) (Pv (by decide +kernel)) (fun y hy hf=>X9 (Pv (sc:=Zj X0) (by decide +kernel) y hy hf)) rfl (P7 (N:=["_law_width","_law_height","_law_found","_law_x","_law_y"]) rfl (by decide +kernel))) rfl (by decide +kernel) (by decide +kernel) (Ks (by decide)) (Jg (by rfl) z_range (Za (Zc 1) Ze)) (fun s3 H3 C ex=>Z7 0 (show(["_law_y","_law_x"]:List Str).Nodup by decide +kernel)) (fun s3 H3 C ex=>(Qe (Za Qj (Za (Zc 1) (Za (Zc 0) Ze)))))))))
   (Zg (Xk PassesOwn.never rfl (Jg (by rfl) z_range (Za (Zo Qp (Zc 1) Zf) Ze)) (Z7 4 sc_l_edges.nd) (Zm (E4 2 (U8 (Nc:=["_law_x","_law_y"]) rfl (Ui (fun y hy hf=>X9 (Pv (sc:=Zj X0) (by decide +kernel) y hy hf))) (Zei (sc:=Zj X0) rfl rfl (by decide +kernel) (Pv (by decide +kernel)) (fun y hy hf=>X9 (Pv (sc:=Zj X0) (by decide +kernel) y hy hf)) rfl (P7 (N:=["_law_width","_law_height","_law_found","_law_x","_law_y"]) rfl (by decide +kernel))) rfl (by decide +kernel) (by decide +kernel) (Ks (by decide)) (Jg (by rfl) z_range (Za (Zc 0) Ze)) (fun s3 H3 C ex=>Z7 0 (show(["_law_x","_law_y"]:List Str).Nodup by decide +kernel)) (fun s3 H3 C ex=>(Qe (Za Qj (Za (Zc 0) (Za (Zc 1) Ze)))))))))
   (Zm (Ry 2)))))
noncomputable def Kr:List D->M S:=Ue 3 2
  (Zx (Ps (Nn (tB (Zl Xg 2[0]! ↑"up")) (Qq (Zb 2[1]! (Zb (Zd 0) Zh))) (Qq (Zb 2[2]! (Zb (Zd 1) Zh)))) (K0 2 (Q0 (Xf 3) (Q0 (Xf 4) Ve))))
   (Zx (Xw (tB (Zl Xg (Zd 3) ↑0)) (Qr ↑0) Q3)
   (Qr (Nn (tB (Zl Xg (Zd 3) (Zd 4))) ↑1 (eC .non)))))
def sc_l_out:FnScope ["_law_width","_law_height","_law_edge","_law_at","_law_end"] ["_law_width","_law_height","_law_edge"] (Zj M5):=⟨rfl,rfl,rfl,by decide +kernel,rfl,by decide +kernel,by decide +kernel⟩
def Zb8 (d:Dm K mg "_law_out" M5)  : Cl P w K mg base 1 "_law_out" ["_law_width","_law_height","_law_edge"] Kr:=
 d.cl (by trivial) fun _ _ F=>Jl F sc_l_out rfl rfl fun cdv A outer s H E hr=>
  (Zg (Gk (Yz (Zr (Yc hr.units) (Zz (Zc 2)) Qj (Zy _)) (Qe (Za (Zz (Zc 2)) (Za (Zc 0) Ze))) (Qe (Za (Zz (Zc 2)) (Za (Zc 1) Ze)))) (Ud rfl (Q6 (Z7 3 sc_l_out.nd) (Q6 (Z7 4 sc_l_out.nd) Kz))))
   (Zg (Qh (Zr (Yc hr.units) (Zc 3) Zf (Zy _)) (Zm (Zs Zf)) Z9)
   (Zm (Zs (Yz (Zr (Yc hr.units) (Zc 3) (Zc 4) (Zy _)) Zf Q8)))))
noncomputable def V5:List D->M S:=Ue 4 3
  (Zx (Z5 4 (Zv Kr (Zb (Zd 0) (Zb (Zd 1) (Zb (Zd 2) Zh)))))
   (Zx (Xw (tB (Zl Ap (Zd 4) (eC .non))) (Zx (Z5 5 (Zl Yu (Xh (Zb (eC .non) (Zb (eC .non) (Zb (eC .non) (Zb (eC .non) (Zb (eC .non) (Zb ↑"mm" (Zb ↑"mp" (Zb ↑"pm" (Zb ↑"pp" (Zb ↑"mm" (Zb (eC .non) (Zb (eC .non) Zh))))))))))))) (Zl Qa (Zd 3) ↑12)))
   (Qr (Nn (tB (Zl Ap (Zd 5) (eC .non))) (eC .non) (Zl Z8 (Zd 2) (Qq (Zb 5[0]! (Zb 5[1]! Zh))))))) Q3)
   (Zx (Xw (tB (Zl Xg (Zl Qa (Zd 3) ↑9) ↑7)) (Qr (eC .non)) Q3)
   (Zx (Z5 6 (Nn (tB (Zl Xg (Zl Qa (Zd 3) ↑9) ↑8)) ↑"p" ↑"m"))
   (Qr (Zl Z8 (Zd 2) (Nn (tB (Zl Xg (Zd 4) ↑0)) (Qq (Zb ↑"p" (Zb (Zd 6) Zh))) (Qq (Zb (Zd 6) (Zb ↑"p" Zh))))))))))
def sc_l_side:FnScope ["_law_width","_law_height","_law_edge","_law_number","_law_out_here","_law_both","_law_face"] ["_law_width","_law_height","_law_edge","_law_number"] (Zj Sl):=⟨rfl,rfl,rfl,by decide +kernel,rfl,by decide +kernel,by decide +kernel⟩
def Ol (d:Dm K mg "_law_side" Sl) (c_l_out:Cl P w K mg base 1 "_law_out" ["_law_width","_law_height","_law_edge"] Kr):Cl P w K mg base 2 "_law_side" ["_law_width","_law_height","_law_edge","_law_number"] V5:=
 d.cl (by trivial) fun _ _ F=>Jl F sc_l_side rfl rfl fun cdv A outer s H E hr=>
  (Zg (Zq 4 sc_l_side.nd (Zw c_l_out (hr.mono (by decide)) (Za (Zc 0) (Za (Zc 1) (Za (Zc 2) Ze)))))
   (Zg (Qh (Zr Ms (Zc 4) Q8 (Zy _)) (Zg (Zq 5 sc_l_side.nd (Jw (X8 (Za Q8 (Za Q8 (Za Q8 (Za Q8 (Za Q8 (Za Qj (Za Qj (Za Qj (Za Qj (Za Qj (Za Q8 (Za Q8 Ze))))))))))))) (Zo Qk (Zc 3) Zf) (fun _ _=>rfl)))
   (Zm (Zs (Yz (Zr Ms (Zc 5) Q8 (Zy _)) Q8 (Zo Qp (Zc 2) (Qe (Za (Zz (Zc 5)) (Za (Zz (Zc 5)) Ze)))))))) Z9)
   (Zg (Qh (Zr (Yc hr.units) (Zo Qk (Zc 3) Zf) Zf (Zy _)) (Zm (Zs Q8)) Z9)
   (Zg (Zq 6 sc_l_side.nd (Yz (Zr (Yc hr.units) (Zo Qk (Zc 3) Zf) Zf (Zy _)) Qj Qj))
   (Zm (Zs (Zo Qp (Zc 2) (Yz (Zr (Yc hr.units) (Zc 4) Zf (Zy _)) (Qe (Za Qj (Za (Zc 6) Ze))) (Qe (Za (Zc 6) (Za Qj Ze)))))))))))
noncomputable def Na:List D->M S:=Ue 3 5
  (Zx (Z5 3 (Zv Kv (Zb (Zd 1) (Zb (Zd 2) Zh))))
   (Zx (Rx 4 (Rw Zh))
   (Zx (Ka (Zef (Zb (Zd 3) (Zb (Zv Qd (Zb (Zd 0) (Zb (J2 V0 (Zb (Zd 3) Zh)) Zh))) Zh))) (K0 2 (Q0 (Xf 5) (Q0 (Xf 6) Ve))) (Zx (Z5 7 (Zv V5 (Zb (Zd 1) (Zb (Zd 2) (Zb (Zd 5) (Zb (Zd 6) Zh))))))
   (Xw (tB (Zl Xl (Zd 7) (eC .non))) (Vt 4 (Zd 7)) Q3)))
   (Rz 4 (Qr (Qq (Zb (Zd 1) (Zb (Zd 2) (Zb (J2 Ro (Zb (J2 Nw (Zb (Zd 4) Zh)) Zh)) Zh)))))))))
def sc_l_hall:FnScope ["_law_cell_here","_law_width","_law_height","_law_edges_here","_law_sides","_law_edge","_law_number","_law_side_here"] ["_law_cell_here","_law_width","_law_height"] (Zj Sm):=⟨rfl,rfl,rfl,by decide +kernel,rfl,by decide +kernel,by decide +kernel⟩
def Om (d:Dm K mg "_law_hall" Sm) (c_l_edges:Cl P w K mg base 1 "_law_edges" ["_law_width","_law_height"] Kv) (c_l_numbers:Cl P w K mg base 1 "_law_numbers" ["_law_cell_here","_law_many"] Qd) (c_l_side:Cl P w K mg base 2 "_law_side" ["_law_width","_law_height","_law_edge","_law_number"] V5) (z_len:mg "len"=none) (z_zip:mg "zip"=none) (z_sorted:mg "sorted"=none) (z_tuple:mg "tuple"=none):Cl P w K mg base 3 "_law_hall" ["_law_cell_here","_law_width","_law_height"] Na:=
 d.cl (by trivial) fun _ _ F=>Jl F sc_l_hall rfl rfl fun cdv A outer s H E hr=>
  (Zg (Zq 3 sc_l_hall.nd (Zw c_l_edges (hr.mono (by decide)) (Za (Zc 1) (Za (Zc 2) Ze))))
   (Zg (Kl 4 sc_l_hall.nd (Kk Ze))
   (Zg (Xk PassesOwn.never rfl (Of (by rfl) z_zip (Za (Zc 3) (Za (Zw c_l_numbers (hr.mono (by decide)) (Za (Zc 0) (Za (Qw Ub (by rfl) z_len (by rfl) (Za (Zc 3) Ze)) Ze))) Ze))) (Ud rfl (Q6 (Z7 5 sc_l_hall.nd) (Q6 (Z7 6 sc_l_hall.nd) Kz))) (Zg (Zq 7 sc_l_hall.nd (Zw c_l_side (hr.mono (by decide)) (Za (Zc 1) (Za (Zc 2) (Za (Zc 5) (Za (Zc 6) Ze))))))
   (Zm (Qh (Zr V3 (Zc 7) Q8 (Zy _)) (Zm (Vf 4 (Zc 7))) Z9))))
   (Uh 4 (Zm (Zs (Qe (Za (Zc 1) (Za (Zc 2) (Za (Vz Rp (by rfl) z_tuple (by rfl) (Za (Qw Av (by rfl) z_sorted (by rfl) (Za (Zc 4) Ze)) Ze)) Ze))))))))))
noncomputable def Wl:List D->M S:=Ue 4 1
  (Zx (Z5 4 (Zl Z8 ↑2 (Zl Qa (Zd 1) (Zl Jv (Zd 3) ↑1))))
   (Qr (Zv Qf (Zb (Zl Z8 (Zl Z8 (Zl Qb (Zl Qa (Zl Yb (Zd 1) ↑1000) (Zd 0)) (Zd 4)) ↑1) (Zl Qa (Zd 2) (Zl Jv (Zd 4) ↑1))) (Zb (Zd 4) Zh)))))
def sc_l_part:FnScope ["_law_size","_law_one","_law_other","_law_most","_law_bottom"] ["_law_size","_law_one","_law_other","_law_most"] (Zj Sn):=⟨rfl,rfl,rfl,by decide +kernel,rfl,by decide +kernel,by decide +kernel⟩
def On (d:Dm K mg "_law_part" Sn) (c_l_lowest:Cl P w K mg base 1 "_law_lowest" ["_law_top","_law_bottom"] Qf):Cl P w K mg base 2 "_law_part" ["_law_size","_law_one","_law_other","_law_most"] Wl:=
 d.cl (by trivial) fun _ _ F=>Jl F sc_l_part rfl rfl fun cdv A outer s H E hr=>
  (Zg (Zq 4 sc_l_part.nd (Zo Qp Zf (Zo Qk (Zc 1) (Zo Jf (Zc 3) Zf))))
   (Zm (Zs (Zw c_l_lowest (hr.mono (by decide)) (Za (Zo Qp (Zo Qp (Zo Qn (Zo Qk (Zo Yw (Zc 1) Zf) (Zc 0)) (Zc 4)) Zf) (Zo Qk (Zc 2) (Zo Jf (Zc 4) Zf))) (Za (Zc 4) Ze))))))
noncomputable def X2:List D->M S:=Ue 4 1
  (Zx (Z5 4 (Zv Qd (Zb (Zd 0) (Zb ↑4 Zh))))
   (Qr (Qq (Zb (Zv Wl (Zb (Zd 1) (Zb 4[0]! (Zb 4[1]! (Zb (Zd 3) Zh))))) (Zb (Zv Wl (Zb (Zd 2) (Zb 4[2]! (Zb 4[3]! (Zb (Zd 3) Zh))))) Zh)))))
def sc_l_point:FnScope ["_law_cell_here","_law_width","_law_height","_law_most","_law_xs"] ["_law_cell_here","_law_width","_law_height","_law_most"] (Zj N2):=⟨rfl,rfl,rfl,by decide +kernel,rfl,by decide +kernel,by decide +kernel⟩
def Eb (d:Dm K mg "_law_point" N2) (c_l_numbers:Cl P w K mg base 1 "_law_numbers" ["_law_cell_here","_law_many"] Qd) (c_l_part:Cl P w K mg base 2 "_law_part" ["_law_size","_law_one","_law_other","_law_most"] Wl):Cl P w K mg base 3 "_law_point" ["_law_cell_here","_law_width","_law_height","_law_most"] X2:=
 d.cl (by trivial) fun _ _ F=>Jl F sc_l_point rfl rfl fun cdv A outer s H E hr=>
  (Zg (Zq 4 sc_l_point.nd (Zw c_l_numbers (hr.mono (by decide)) (Za (Zc 0) (Za Zf Ze))))
   (Zm (Zs (Qe (Za (Zw c_l_part (hr.mono (by decide)) (Za (Zc 1) (Za (Zz (Zc 4)) (Za (Zz (Zc 4)) (Za (Zc 3) Ze))))) (Za (Zw c_l_part (hr.mono (by decide)) (Za (Zc 2) (Za (Zz (Zc 4)) (Za (Zz (Zc 4)) (Za (Zc 3) Ze))))) Ze))))))
noncomputable def Ut:List D->M S:=Ue 4 3
  (Zx (Rx 4 (Rw Zh))
   (Zx (Ka (Kj (Zd 0)) (Xf 5) (Zx (Z5 6 (Zv X2 (Zb (Zd 5) (Zb (Zd 1) (Zb (Zd 2) (Zb (Zd 3) Zh))))))
   (Xw (R4 4 (tB (Zl R1 (Zd 6) (Zd 4)))) (Vt 4 (Zd 6)) Q3)))
   (An 4)))
def sc_l_people:FnScope ["_law_some","_law_width","_law_height","_law_most","_law_found","_law_cell_here","_law_point_here"] ["_law_some","_law_width","_law_height","_law_most"] (Zj Gb):=⟨rfl,rfl,rfl,by decide +kernel,rfl,by decide +kernel,by decide +kernel⟩
def Cf (d:Dm K mg "_law_people" Gb) (c_l_point:Cl P w K mg base 3 "_law_point" ["_law_cell_here","_law_width","_law_height","_law_most"] X2):Cl P w K mg base 4 "_law_people" ["_law_some","_law_width","_law_height","_law_most"] Ut:=
 d.cl (by trivial) fun _ _ F=>Jl F sc_l_people rfl rfl fun cdv A outer s H E hr=>
  (Zg (Kl 4 sc_l_people.nd (Kk Ze))
   (Zg (Xk PassesOwn.never rfl (Jr (Zc 0)) (Z7 5 sc_l_people.nd) (Zg (Zq 6 sc_l_people.nd (Zw c_l_point (hr.mono (by decide)) (Za (Zc 5) (Za (Zc 1) (Za (Zc 2) (Za (Zc 3) Ze))))))
   (Zm (Qh (Zba 4 (Zr (Za4 (by exact hr.units)) (Zc 6) (Zc 4) (by with_unfolding_all rfl))) (Zm (Vf 4 (Zc 6))) Z9))))
   (Zm (Ry 4))))
noncomputable def Wm:List D->M S:=Ue 5 11
  (Zx (Z5 5 (Zv Qd (Zb (Zd 0) (Zb ↑7 Zh))))
   (Zx (Xw (tA (tB (Zl Zau (Zl Qa 5[0]! ↑4) ↑2)) (tB (Zl W0 (Zd 4) (Xh Zh)))) (Zx (Z5 6 (Zl Yu (Zd 4) (Zl Qa 5[1]! (J2 V0 (Zb (Zd 4) Zh)))))
   (Zx (Rx 7 (Rw Zh))
   (Zx (Ka (Yg (Zb ↑2 Zh)) (Xf 8) (Zx (Z5 9 (Zl Qb ↑2 (Zl Jv (Zl Qa (Zl Yu (Zd 5) (Zl Z8 ↑2 (Zd 8))) ↑13) ↑6)))
   (Zx (Ps (Zl Yu (Zd 6) (Zd 8)) (K0 2 (Q0 (Xf 10) (Q0 (Xf 11) Ve))))
   (Zx (Xw (tB (Zl Xg (Zl Qa (Zl Yu (Zd 5) (Zl Z8 ↑4 (Zd 8))) ↑2) ↑1)) (Z5 10 (Zl Jv ↑0 (Zd 10))) Q3)
   (Zx (Z5 10 (Zl Z8 (Zd 10) (Zl Qb (Zd 9) (Zd 11))))
   (Zx (Ps (Zl Yu (Zd 3) (Zd 8)) (K0 2 (Q0 (Xf 12) (Q0 (Xf 13) Ve))))
   (Vt 7 (Zv Qf (Zb (Zl Jv (Zl Qb (Zd 10) (Zd 13)) (Zl Qb (Zd 12) (Zd 11))) (Zb (Zl Qb (Zd 11) (Zd 13)) Zh))))))))))
   (Rz 7 (Xw (tO (tB (Zl W0 (Zl Yu 7[0]! ↑0) ↑0)) (tB (Zl W0 (Zl Yu 7[1]! ↑0) ↑0))) (Qr (Qq (Zb 7[0]! (Zb 7[1]! Zh)))) Q3))))) Q3)
   (Zx (Z5 14 (Zv Qf (Zb (Zl Jv (Zl Qa 5[2]! ↑41) ↑20) (Zb (Zl Z8 ↑1 (Zl Qa 5[4]! (Zl Yu (Xh (Zb ↑1 (Zb ↑6 (Zb ↑6 (Zb ↑6 Zh))))) (Zl Qa 5[6]! ↑4)))) Zh))))
   (Zx (Z5 15 (Zv Qf (Zb (Zl Jv (Zl Qa 5[3]! ↑41) ↑20) (Zb (Zl Z8 ↑1 (Zl Qa 5[5]! (Zl Yu (Xh (Zb ↑1 (Zb ↑6 (Zb ↑6 (Zb ↑6 Zh))))) (Zl Qa (Zl Yb 5[6]! ↑4) ↑4)))) Zh))))
   (Zx (Xw (tB (Zl Xg (Zl Qa 5[0]! ↑4) ↑3)) (Z5 15 (Zv Qf (Zb (Zl Qb 14[0]! (Zl Yu (Xh (Zb ↑1 (Zb (E7 Wz ↑1) Zh))) (Zl Qa 5[3]! ↑2))) (Zb 14[1]! Zh)))) Q3)
   (Zx (Xw (tA (tB (Zl Xg 14[0]! ↑0)) (tB (Zl Xg 15[0]! ↑0))) (Qr (Qq (Zb (Qq (Zb ↑1 (Zb ↑1 Zh))) (Zb (Qq (Zb ↑0 (Zb ↑1 Zh))) Zh)))) Q3)
   (Qr (Qq (Zb (Zd 14) (Zb (Zd 15) Zh))))))))))
def sc_l_step:FnScope ["_law_cell_here","_law_width","_law_height","_law_point_here","_law_people_here","_law_xs","_law_spot","_law_found","_law_k","_law_far","_law_top","_law_bottom","_law_mine","_law_part_here","_law_one","_law_other"] ["_law_cell_here","_law_width","_law_height","_law_point_here","_law_people_here"] (Zj So):=⟨rfl,rfl,rfl,by decide +kernel,rfl,by decide +kernel,by decide +kernel⟩
def Oo (d:Dm K mg "_law_step" So) (c_l_numbers:Cl P w K mg base 1 "_law_numbers" ["_law_cell_here","_law_many"] Qd) (c_l_lowest:Cl P w K mg base 1 "_law_lowest" ["_law_top","_law_bottom"] Qf) (z_len:mg "len"=none) (z_range:mg "range"=none):Cl P w K mg base 2 "_law_step" ["_law_cell_here","_law_width","_law_height","_law_point_here","_law_people_here"] Wm:=
 d.cl (by trivial) fun _ _ F=>Jl F sc_l_step rfl rfl fun cdv A outer s H E hr=>
  (Zg (Zq 5 sc_l_step.nd (Zw c_l_numbers (hr.mono (by decide)) (Za (Zc 0) (Za Zf Ze))))
   (Zg (Qh ((Ki (Zr Ev (Zo Qk (Zz (Zc 5)) Zf) Zf (Zy _)) (Ky (Zr (U7 hr.units) (Zc 4) (X8 Ze) (Zy _))))).pt (Zg (Zq 6 sc_l_step.nd (Jw (Zc 4) (Zo Qk (Zz (Zc 5)) (Qw Ub (by rfl) z_len (by rfl) (Za (Zc 4) Ze))) (fun _ _=>rfl)))
   (Zg (Kl 7 sc_l_step.nd (Kk Ze))
   (Zg (Xk PassesOwn.never rfl (Jg (by rfl) z_range (Za Zf Ze)) (Z7 8 sc_l_step.nd) (Zg (Zq 9 sc_l_step.nd (Zo Qn Zf (Zo Jf (Zo Qk (Jw (Zc 5) (Zo Qp Zf (Zc 8)) (fun _ _=>rfl)) Zf) Zf)))
   (Zg (Gk (Jw (Zc 6) (Zc 8) (fun _ _=>rfl)) (Ud rfl (Q6 (Z7 10 sc_l_step.nd) (Q6 (Z7 11 sc_l_step.nd) Kz))))
   (Zg (Qh (Zr (Yc hr.units) (Zo Qk (Jw (Zc 5) (Zo Qp Zf (Zc 8)) (fun _ _=>rfl)) Zf) Zf (Zy _)) (Zm (Zq 10 sc_l_step.nd (Zo Jf Zf (Zc 10)))) Z9)
   (Zg (Zq 10 sc_l_step.nd (Zo Qp (Zc 10) (Zo Qn (Zc 9) (Zc 11))))
   (Zg (Gk (Jw (Zc 3) (Zc 8) (fun _ _=>rfl)) (Ud rfl (Q6 (Z7 12 sc_l_step.nd) (Q6 (Z7 13 sc_l_step.nd) Kz))))
   (Zm (Vf 7 (Zw c_l_lowest (hr.mono (by decide)) (Za (Zo Jf (Zo Qn (Zc 10) (Zc 13)) (Zo Qn (Zc 12) (Zc 11))) (Za (Zo Qn (Zc 11) (Zc 13)) Ze)))))))))))
   (Uh 7 (Zm (Qh ((Uc (Zr (U7 hr.units) (Zz (Zz (Zc 7))) Zf (Zy _)) (Vc (Zr (U7 hr.units) (Zz (Zz (Zc 7))) Zf (Zy _))))).pt (Zm (Zs (Qe (Za (Zz (Zc 7)) (Za (Zz (Zc 7)) Ze))))) Z9)))))) Z9)
   (Zg (Zq 14 sc_l_step.nd (Zw c_l_lowest (hr.mono (by decide)) (Za (Zo Jf (Zo Qk (Zz (Zc 5)) Zf) Zf) (Za (Zo Qp Zf (Zo Qk (Zz (Zc 5)) (Jw (X8 (Za Zf (Za Zf (Za Zf (Za Zf Ze))))) (Zo Qk (Zz (Zc 5)) Zf) (fun _ _=>rfl)))) Ze))))
   (Zg (Zq 15 sc_l_step.nd (Zw c_l_lowest (hr.mono (by decide)) (Za (Zo Jf (Zo Qk (Zz (Zc 5)) Zf) Zf) (Za (Zo Qp Zf (Zo Qk (Zz (Zc 5)) (Jw (X8 (Za Zf (Za Zf (Za Zf (Za Zf Ze))))) (Zo Qk (Zo Yw (Zz (Zc 5)) Zf) Zf) (fun _ _=>rfl)))) Ze))))
   (Zg (Qh (Zr (Yc hr.units) (Zo Qk (Zz (Zc 5)) Zf) Zf (Zy _)) (Zm (Zq 15 sc_l_step.nd (Zw c_l_lowest (hr.mono (by decide)) (Za (Zo Qn (Zz (Zc 14)) (Jw (X8 (Za Zf (Za (Lf W5 Zf) Ze))) (Zo Qk (Zz (Zc 5)) Zf) (fun _ _=>rfl))) (Za (Zz (Zc 14)) Ze))))) Z9)
   (Zg (Qh ((Ki (Zr (Yc hr.units) (Zz (Zc 14)) Zf (Zy _)) (Ky (Zr (Yc hr.units) (Zz (Zc 15)) Zf (Zy _))))).pt (Zm (Zs (Qe (Za (Qe (Za Zf (Za Zf Ze))) (Za (Qe (Za Zf (Za Zf Ze))) Ze))))) Z9)
   (Zm (Zs (Qe (Za (Zc 14) (Za (Zc 15) Ze)))))))))))
noncomputable def J3:List D->M S:=Ue 1 1
  (Zx (Xw (tO (tN (tB (O4 "tuple" (Zd 0)))) (tB (Zl W0 (J2 V0 (Zb (Zd 0) Zh)) ↑2))) (Qr (eC (.bl false))) Q3)
   (Zx (Ka (Kj (Zd 0)) (Xf 1) (Xw (tO (tN (tB (O4 "int" (Zd 1)))) (tB (O4 "bool" (Zd 1)))) (Qr (eC (.bl false))) Q3))
   (Qr (Pq (Zl Gh 0[1]! ↑0) (Zl Xg (Zv Qf (Zb 0[0]! (Zb 0[1]! Zh))) (Zd 0))))))
def sc_l_is_number:FnScope ["_law_found","_law_part_here"] ["_law_found"] (Zj Vw):=⟨rfl,rfl,rfl,by decide +kernel,rfl,by decide +kernel,by decide +kernel⟩
def Sw (d:Dm K mg "_law_is_number" Vw) (c_l_lowest:Cl P w K mg base 1 "_law_lowest" ["_law_top","_law_bottom"] Qf) (z_isinstance:mg "isinstance"=none) (z_tuple:mg "tuple"=none) (z_len:mg "len"=none) (z_int:mg "int"=none) (z_bool:mg "bool"=none):Cl P w K mg base 2 "_law_is_number" ["_law_found"] J3:=
 d.cl (by trivial) fun _ _ F=>Jl F sc_l_is_number rfl rfl fun cdv A outer s H E hr=>
  (Zg (Qh ((Uc (Jn (Yq (Xz "tuple" (by rfl) z_isinstance z_tuple (by rfl) (by rfl) (Zc 0)))) (Vc (Zr (U7 hr.units) (Qw Ub (by rfl) z_len (by rfl) (Za (Zc 0) Ze)) Zf (Zy _))))).pt (Zm (Zs Uy)) Z9)
   (Zg (Xk PassesOwn.never rfl (Jr (Zc 0)) (Z7 1 sc_l_is_number.nd) (Zm (Qh ((Uc (Jn (Yq (Xz "int" (by rfl) z_isinstance z_int (by rfl) (by rfl) (Zc 1)))) (Vc (Yq (Xz "bool" (by rfl) z_isinstance z_bool (by rfl) (by rfl) (Zc 1)))))).pt (Zm (Zs Uy)) Z9)))
   (Zm (Zs (No (Vs Gi (Zz (Zc 0)) Zf (Zy _)) (Mn (Vs (Yc hr.units) (Zw c_l_lowest (hr.mono (by decide)) (Za (Zz (Zc 0)) (Za (Zz (Zc 0)) Ze))) (Zc 0) (Zy _))))))))
noncomputable def Y7:List D->M S:=Ue 1 0
  (Qr (Pq (O4 "tuple" (Zd 0)) (Pq (Zl Xg (J2 V0 (Zb (Zd 0) Zh)) ↑2) (J2 Ix (Zb (Pu (V2 (Kj (Zd 0)) 1 [] (Xf 0) (Zv J3 (Zb (Zd 0) Zh)))) Zh)))))
def Tu:FnScope ["_law_found"] ["_law_found"] (Zj Uo):=⟨rfl,rfl,rfl,by decide +kernel,rfl,by decide +kernel,by decide +kernel⟩
def Tv (d:Dm K mg "_law_is_point" Uo) (c_l_is_number:Cl P w K mg base 2 "_law_is_number" ["_law_found"] J3) (z_isinstance:mg "isinstance"=none) (z_tuple:mg "tuple"=none) (z_len:mg "len"=none) (z_all:mg "all"=none):Cl P w K mg base 3 "_law_is_point" ["_law_found"] Y7:=
 d.cl (by trivial) fun _ _ F=>Jl F Tu rfl rfl fun cdv A outer s H E hr=>
  (Zm (Zs (No (Xz "tuple" (by rfl) z_isinstance z_tuple (by rfl) (by rfl) (Zc 0)) (No (Vs (Yc hr.units) (Qw Ub (by rfl) z_len (by rfl) (Za (Zc 0) Ze)) Zf (Zy _)) (Mn (Qw (Za1 rfl) (by rfl) z_all (by rfl) (Za (Mq (U8 (Nc:=["_law_part_here"]) rfl (closureFor_none (by decide +kernel)) (Zkc rfl (by decide +kernel)) rfl (by decide +kernel) (by decide +kernel) (Ks (by decide)) (Jr (Zc 0)) (fun s3 H3 C ex=>Z7 0 (show(["_law_part_here"]:List Str).Nodup by decide +kernel)) (fun s3 H3 C ex=>(Zw c_l_is_number (hr.mono (by decide)) (Za (Zc 0) Ze))))) Ze)))))))
noncomputable def Vm:List D->M S:=Ue 1 0
  (Zx (Xw (tO (tN (tB (O4 "tuple" (Zd 0)))) (tO (tB (Zl W0 (J2 V0 (Zb (Zd 0) Zh)) ↑3)) (tN (tB (O4 "str" 0[0]!))))) (Qr (eC (.bl false))) Q3)
   (Zx (Xw (tO (tN (tB (Zv Y7 (Zb 0[1]! Zh)))) (tN (tB (O4 "list" 0[2]!)))) (Qr (eC (.bl false))) Q3)
   (Qr (J2 Ix (Zb (Pu (V2 (Kj 0[2]!) 1 [] (Xf 0) (Zv Y7 (Zb (Zd 0) Zh)))) Zh)))))
def Bj:FnScope ["_law_found"] ["_law_found"] (Zj Wg):=⟨rfl,rfl,rfl,by decide +kernel,rfl,by decide +kernel,by decide +kernel⟩
def Bl (d:Dm K mg "_law_is_walk" Wg) (c_l_is_point:Cl P w K mg base 3 "_law_is_point" ["_law_found"] Y7) (z_isinstance:mg "isinstance"=none) (z_tuple:mg "tuple"=none) (z_len:mg "len"=none) (z_str:mg "str"=none) (z_list:mg "list"=none) (z_all:mg "all"=none):Cl P w K mg base 4 "_law_is_walk" ["_law_found"] Vm:=
 d.cl (by trivial) fun _ _ F=>Jl F Bj rfl rfl fun cdv A outer s H E hr=>
  (Zg (Qh ((Uc (Jn (Yq (Xz "tuple" (by rfl) z_isinstance z_tuple (by rfl) (by rfl) (Zc 0)))) (Uc (Zr (U7 hr.units) (Qw Ub (by rfl) z_len (by rfl) (Za (Zc 0) Ze)) Zf (Zy _)) (Vc (Jn (Yq (Xz "str" (by rfl) z_isinstance z_str (by rfl) (by rfl) (Zz (Zc 0))))))))).pt (Zm (Zs Uy)) Z9)
   (Zg (Qh ((Uc (Jn (Yq (Zw c_l_is_point (hr.mono (by decide)) (Za (Zz (Zc 0)) Ze)))) (Vc (Jn (Yq (Xz "list" (by rfl) z_isinstance z_list (by rfl) (by rfl) (Zz (Zc 0)))))))).pt (Zm (Zs Uy)) Z9)
   (Zm (Zs (Qw (Za1 rfl) (by rfl) z_all (by rfl) (Za (Mq (U8 (Nc:=["_law_point_here"]) rfl (closureFor_none (by decide +kernel)) (Zkc rfl (by decide +kernel)) rfl (by decide +kernel) (by decide +kernel) (Ks (by decide)) (Jr (Zz (Zc 0))) (fun s3 H3 C ex=>Z7 0 (show(["_law_point_here"]:List Str).Nodup by decide +kernel)) (fun s3 H3 C ex=>(Zw c_l_is_point (hr.mono (by decide)) (Za (Zc 0) Ze))))) Ze))))))
noncomputable def Ww:List D->M S:=Ue 1 7
  (Zx (Z5 1 (Zl Yu (Zv Qd (Zb (Zv Yf (Zb (Zd 0) (Zb ↑0 Zh))) (Zb ↑1 Zh))) ↑0))
   (Zx (Z5 2 (Zl Z8 ↑1 (Zl Qa (Zd 1) ↑5)))
   (Zx (Z5 3 (Zl Z8 ↑1 (Zl Qa (Zl Yb (Zd 1) ↑5) ↑5)))
   (Zx (Z5 4 (Zv Na (Zb (Zv Yf (Zb (Zd 0) (Zb ↑1 Zh))) (Zb (Zd 2) (Zb (Zd 3) Zh)))))
   (Zx (Z5 5 ↑9)
   (Zx (Z5 6 (Zv Ut (Zb (Do (Zd 0) (Xq ↑2) (Xq (Zl Z8 ↑2 (Zl Qa (Zl Yb (Zd 1) ↑100) ↑6)))) (Zb (Zd 2) (Zb (Zd 3) (Zb (Zd 5) Zh))))))
   (Zx (Z5 7 (Zv X2 (Zb (Zv Yf (Zb (Zd 0) (Zb ↑8 Zh))) (Zb (Zd 2) (Zb (Zd 3) (Zb (Zd 5) Zh))))))
   (Zx (Xw (tA (tB (Zl Xg (Zl Qa (Zl Yb (Zd 1) ↑600) ↑2) ↑0)) (tB (Zl W0 (Zd 6) (Xh Zh)))) (Z5 7 (Zl Yu (Zd 6) (Zl Qa (Zl Yb (Zd 1) ↑1200) (J2 V0 (Zb (Zd 6) Zh))))) Q3)
   (Qr (Qq (Zb (Zd 4) (Zb (Zd 6) (Zb (Zd 7) Zh)))))))))))))
def sc_l_drawn:FnScope ["_law_script","_law_first","_law_width","_law_height","_law_hall_here","_law_bottom","_law_people_here","_law_point_here"] ["_law_script"] (Zj N3):=⟨rfl,rfl,rfl,by decide +kernel,rfl,by decide +kernel,by decide +kernel⟩
def Ec (d:Dm K mg "_law_drawn" N3) (c_l_numbers:Cl P w K mg base 1 "_law_numbers" ["_law_cell_here","_law_many"] Qd) (c_l_cell:Cl P w K mg base 1 "_law_cell" ["_law_script","_law_k"] Yf) (c_l_hall:Cl P w K mg base 3 "_law_hall" ["_law_cell_here","_law_width","_law_height"] Na) (c_l_people:Cl P w K mg base 4 "_law_people" ["_law_some","_law_width","_law_height","_law_most"] Ut) (c_l_point:Cl P w K mg base 3 "_law_point" ["_law_cell_here","_law_width","_law_height","_law_most"] X2) (z_len:mg "len"=none):Cl P w K mg base 5 "_law_drawn" ["_law_script"] Ww:=
 d.cl (by trivial) fun _ _ F=>Jl F sc_l_drawn rfl rfl fun cdv A outer s H E hr=>
  (Zg (Zq 1 sc_l_drawn.nd (Zz (Zw c_l_numbers (hr.mono (by decide)) (Za (Zw c_l_cell (hr.mono (by decide)) (Za (Zc 0) (Za Zf Ze))) (Za Zf Ze)))))
   (Zg (Zq 2 sc_l_drawn.nd (Zo Qp Zf (Zo Qk (Zc 1) Zf)))
   (Zg (Zq 3 sc_l_drawn.nd (Zo Qp Zf (Zo Qk (Zo Yw (Zc 1) Zf) Zf)))
   (Zg (Zq 4 sc_l_drawn.nd (Zw c_l_hall (hr.mono (by decide)) (Za (Zw c_l_cell (hr.mono (by decide)) (Za (Zc 0) (Za Zf Ze))) (Za (Zc 2) (Za (Zc 3) Ze)))))
   (Zg (Zq 5 sc_l_drawn.nd Zf)
   (Zg (Zq 6 sc_l_drawn.nd (Zw c_l_people (hr.mono (by decide)) (Za (V1 (Zc 0) (Jq Zf) (Jq (Zo Qp Zf (Zo Qk (Zo Yw (Zc 1) Zf) Zf)))) (Za (Zc 2) (Za (Zc 3) (Za (Zc 5) Ze))))))
   (Zg (Zq 7 sc_l_drawn.nd (Zw c_l_point (hr.mono (by decide)) (Za (Zw c_l_cell (hr.mono (by decide)) (Za (Zc 0) (Za Zf Ze))) (Za (Zc 2) (Za (Zc 3) (Za (Zc 5) Ze))))))
   (Zg (Qh ((Ki (Zr (Yc hr.units) (Zo Qk (Zo Yw (Zc 1) Zf) Zf) Zf (Zy _)) (Ky (Zr (U7 hr.units) (Zc 6) (X8 Ze) (Zy _))))).pt (Zm (Zq 7 sc_l_drawn.nd (Jw (Zc 6) (Zo Qk (Zo Yw (Zc 1) Zf) (Qw Ub (by rfl) z_len (by rfl) (Za (Zc 6) Ze))) (fun _ _=>rfl)))) Z9)
   (Zm (Zs (Qe (Za (Zc 4) (Za (Zc 6) (Za (Zc 7) Ze))))))))))))))
noncomputable def K7:List D->M S:=Ue 3 3
  (Zx (Rx 3 (Rw Zh))
   (Zx (Ka (Yg (Zb ↑2 Zh)) (Xf 4) (Zx (Z5 5 (J2 V0 (Zb (Pu (Uj (Kj (Zd 1)) 1 [4] (Xf 0) (tB (Zl Xg (Zl Yu (Zl Yu (Zd 0) (Zd 1)) ↑1) ↑1)) (Zd 0))) Zh)))
   (Vt 3 (Qq (Zb (Zl Qb (Zl Qb (Zl Yu (Zl Yu (Zd 0) (Zd 4)) ↑0) (Zd 2)) (Zl Yu (Xh (Zb ↑1 (Zb (E7 Wz ↑1) Zh))) (Zl Qa (Zd 5) ↑2))) (Zb (Zl Yu (Zl Yu (Zd 0) (Zd 4)) ↑1) Zh))))))
   (Rz 3 (Qr (J2 Ro (Zb (Zd 3) Zh))))))
def sc_l_turned:FnScope ["_law_step_here","_law_turns","_law_sign","_law_found","_law_k","_law_often"] ["_law_step_here","_law_turns","_law_sign"] (Zj Jz):=⟨rfl,rfl,rfl,by decide +kernel,rfl,by decide +kernel,by decide +kernel⟩
def Cg (d:Dm K mg "_law_turned" Jz) (z_range:mg "range"=none) (z_len:mg "len"=none) (z_tuple:mg "tuple"=none):Cl P w K mg base 1 "_law_turned" ["_law_step_here","_law_turns","_law_sign"] K7:=
 d.cl (by trivial) fun _ _ F=>Jl F sc_l_turned rfl rfl fun cdv A outer s H E hr=>
  (Zg (Kl 3 sc_l_turned.nd (Kk Ze))
   (Zg (Xk PassesOwn.never rfl (Jg (by rfl) z_range (Za Zf Ze)) (Z7 4 sc_l_turned.nd) (Zg (Zq 5 sc_l_turned.nd (Qw Ub (by rfl) z_len (by rfl) (Za (Mq (Dw (Nc:=["_law_spot","_law_k"]) rfl (Ui (fun y hy hf=>X9 (Pv (sc:=Zj Jz) (by decide +kernel) y hy hf))) (Zei (sc:=Zj Jz) rfl rfl (by decide +kernel) (Pv (by decide +kernel)) (fun y hy hf=>X9 (Pv (sc:=Zj Jz) (by decide +kernel) y hy hf)) rfl (P7 (N:=["_law_step_here","_law_turns","_law_sign","_law_found","_law_k","_law_often"]) rfl (by decide +kernel))) rfl (by decide +kernel) (by decide +kernel) (Ks (by decide)) (Jr (Zc 1)) (fun s3 H3 C ex=>Z7 0 (show(["_law_spot","_law_k"]:List Str).Nodup by decide +kernel)) (fun s3 H3 C ex=>(Zr (Yc hr.units) (Zz (Jw (Zc 0) (Zc 1) (fun _ _=>rfl))) Zf (Zy _))) (fun s3 H3 C ex=>(Zc 0)))) Ze)))
   (Zm (Vf 3 (Qe (Za (Zo Qn (Zo Qn (Zz (Jw (Zc 0) (Zc 4) (fun _ _=>rfl))) (Zc 2)) (Jw (X8 (Za Zf (Za (Lf W5 Zf) Ze))) (Zo Qk (Zc 5) Zf) (fun _ _=>rfl))) (Za (Zz (Jw (Zc 0) (Zc 4) (fun _ _=>rfl))) Ze)))))))
   (Uh 3 (Zm (Zs (Vz Rp (by rfl) z_tuple (by rfl) (Za (Zc 3) Ze)))))))
noncomputable def Xu:List D->M S:=Ue 6 7
  (Zx (Z5 6 (Zv F_walk (Zb (Zd 0) (Zb (J2 La (Zb (Zd 1) Zh)) (Zb (Zd 2) (Zb (Zd 3) (Zb (Zd 4) Zh)))))))
   (Zx (Xw (tN (tB (Zv Vm (Zb (Zd 6) Zh)))) (Qr (eC (.bl false))) Q3)
   (Zx (Ps (Zd 6) (K0 3 (Q0 (Xf 7) (Q0 (Xf 8) (Q0 (Xf 9) Ve)))))
   (Zx (Xw (tA (tB (Zl Xg (Zd 7) ↑"end")) (tA (tB (Zl Gh (Zl Yu 8[0]! ↑1) ↑1)) (tB (Zl Gh (Zl Yu 8[1]! ↑1) ↑1)))) (Zx (Z5 10 (Zv K7 (Zb (Zd 3) (Zb (Zd 9) (Zb (E7 Wz ↑1) Zh)))))
   (Zx (Z5 11 (Qq (Zb ↑"end" (Zb (Zd 2) (Zb (Zbz (Zd 9)) Zh)))))
   (Ka (Kj (Zl Z8 (Xh (Zb (J2 V0 (Zb (Zd 9) Zh)) Zh)) (Zd 5))) (Xf 12) (Xw (tB (Zl W0 (Zv F_walk (Zb (Zd 0) (Zb (J2 La (Zb (Zd 1) Zh)) (Zb (Zd 8) (Zb (Zd 10) (Zb (Zd 12) Zh)))))) (Zd 11))) (Qr (eC (.bl false))) Q3)))) Q3)
   (Qr (eC (.bl true)))))))
def sc_l_is_back:FnScope ["_law_hall_here","_law_people_here","_law_point_here","_law_step_here","_law_most","_law_mosts","_law_found","_law_word","_law_spot","_law_turns","_law_back","_law_due","_law_more"] ["_law_hall_here","_law_people_here","_law_point_here","_law_step_here","_law_most","_law_mosts"] (Zj Wh):=⟨rfl,rfl,rfl,by decide +kernel,rfl,by decide +kernel,by decide +kernel⟩
def Bm (d:Dm K mg "_law_is_back" Wh) (c_walk:Cl P w K mg base 7 "walk" ["hall","people","point","step","most"] F_walk) (c_l_is_walk:Cl P w K mg base 4 "_law_is_walk" ["_law_found"] Vm) (c_l_turned:Cl P w K mg base 1 "_law_turned" ["_law_step_here","_law_turns","_law_sign"] K7) (z_list:mg "list"=none) (z_len:mg "len"=none):Cl P w K mg base 8 "_law_is_back" ["_law_hall_here","_law_people_here","_law_point_here","_law_step_here","_law_most","_law_mosts"] Xu:=
 d.cl (by trivial) fun _ _ F=>Jl F sc_l_is_back rfl rfl fun cdv A outer s H E hr=>
  (Zg (Zq 6 sc_l_is_back.nd (Zw c_walk (hr.mono (by decide)) (Za (Zc 0) (Za (Vz Ey (by rfl) z_list (by rfl) (Za (Zc 1) Ze)) (Za (Zc 2) (Za (Zc 3) (Za (Zc 4) Ze)))))))
   (Zg (Qh (Jn (Yq (Zw c_l_is_walk (hr.mono (by decide)) (Za (Zc 6) Ze)))) (Zm (Zs Uy)) Z9)
   (Zg (Gk (Zc 6) (Ud rfl (Q6 (Z7 7 sc_l_is_back.nd) (Q6 (Z7 8 sc_l_is_back.nd) (Q6 (Z7 9 sc_l_is_back.nd) Kz)))))
   (Zg (Qh ((Ki (Zr (Yc hr.units) (Zc 7) Qj (Zy _)) (Ki (Zr Gi (Zz (Zz (Zc 8))) Zf (Zy _)) (Ky (Zr Gi (Zz (Zz (Zc 8))) Zf (Zy _)))))).pt (Zg (Zq 10 sc_l_is_back.nd (Zw c_l_turned (hr.mono (by decide)) (Za (Zc 3) (Za (Zc 9) (Za (Lf W5 Zf) Ze)))))
   (Zg (Zq 11 sc_l_is_back.nd (Qe (Za Qj (Za (Zc 2) (Za (Zey (Zc 9)) Ze)))))
   (Zm (Xk PassesOwn.never rfl (Jr (Zo Qp (X8 (Za (Qw Ub (by rfl) z_len (by rfl) (Za (Zc 9) Ze)) Ze)) (Zc 5))) (Z7 12 sc_l_is_back.nd) (Zm (Qh (Zr (U7 hr.units) (Zw c_walk (hr.mono (by decide)) (Za (Zc 0) (Za (Vz Ey (by rfl) z_list (by rfl) (Za (Zc 1) Ze)) (Za (Zc 8) (Za (Zc 10) (Za (Zc 12) Ze)))))) (Zc 11) (Zy _)) (Zm (Zs Uy)) Z9)))))) Z9)
   (Zm (Zs Uy))))))
noncomputable def Nb:List D->M S:=Ue 1 8
  (Zx (Z5 1 (Zv Qd (Zb (Zv Yf (Zb (Zd 0) (Zb ↑9 Zh))) (Zb ↑6 Zh))))
   (Zx (Z5 2 (Zl Z8 ↑1 (Zl Qa 1[0]! ↑2)))
   (Zx (Rx 3 (Rw Zh))
   (Zx (Ka (Kj (Zv Kv (Zb ↑2 (Zb (Zd 2) Zh)))) (Xf 4) (Zx (Z5 5 (Zv Kr (Zb ↑2 (Zb (Zd 2) (Zb (Zd 4) Zh)))))
   (Xw (tB (Zl Xl (Zd 5) (eC .non))) (Vt 3 (Zl Z8 (Zd 4) (Nn (tB (Zl Xg (Zd 5) ↑0)) (Qq (Zb ↑"p" (Zb ↑"m" Zh))) (Qq (Zb ↑"m" (Zb ↑"p" Zh)))))) Q3)))
   (Zx (Z5 6 (Zl Qb (Zl Yu (Xh (Zb ↑1 (Zb (E7 Wz ↑1) Zh))) (Zl Qa 1[1]! ↑2)) (Zl Z8 ↑1020 (Zl Qa 1[2]! ↑30))))
   (Zx (Z5 7 (Qq (Zb (Qq (Zb (Zd 6) (Zb ↑1 Zh))) (Zb (Zv Qf (Zb (Zl Jv (Zl Qa 1[3]! ↑13) ↑6) (Zb (Zl Z8 ↑1 (Zl Qa 1[4]! ↑6)) Zh))) Zh))))
   (Zx (Z5 8 (Zv X2 (Zb (Zv Yf (Zb (Zd 0) (Zb ↑8 Zh))) (Zb ↑2 (Zb (Zd 2) (Zb ↑9 Zh))))))
   (Rz 3 (Qr (Zv Xu (Zb (Qq (Zb ↑2 (Zb (Zd 2) (Zb (J2 Ro (Zb (J2 Nw (Zb (Zd 3) Zh)) Zh)) Zh)))) (Zb (Xh Zh) (Zb (Zd 8) (Zb (Zd 7) (Zb ↑1000 (Zb (Xh Zh) Zh))))))))))))))))
def sc_l_long:FnScope ["_law_script","_law_xs","_law_height","_law_sides","_law_edge","_law_out_here","_law_far","_law_step_here","_law_point_here"] ["_law_script"] (Zj Sq):=⟨rfl,rfl,rfl,by decide +kernel,rfl,by decide +kernel,by decide +kernel⟩
def Op (d:Dm K mg "_law_long" Sq) (c_l_numbers:Cl P w K mg base 1 "_law_numbers" ["_law_cell_here","_law_many"] Qd) (c_l_cell:Cl P w K mg base 1 "_law_cell" ["_law_script","_law_k"] Yf) (c_l_edges:Cl P w K mg base 1 "_law_edges" ["_law_width","_law_height"] Kv) (c_l_out:Cl P w K mg base 1 "_law_out" ["_law_width","_law_height","_law_edge"] Kr) (c_l_lowest:Cl P w K mg base 1 "_law_lowest" ["_law_top","_law_bottom"] Qf) (c_l_point:Cl P w K mg base 3 "_law_point" ["_law_cell_here","_law_width","_law_height","_law_most"] X2) (c_l_is_back:Cl P w K mg base 8 "_law_is_back" ["_law_hall_here","_law_people_here","_law_point_here","_law_step_here","_law_most","_law_mosts"] Xu) (z_sorted:mg "sorted"=none) (z_tuple:mg "tuple"=none):Cl P w K mg base 9 "_law_long" ["_law_script"] Nb:=
 d.cl (by trivial) fun _ _ F=>Jl F sc_l_long rfl rfl fun cdv A outer s H E hr=>
  (Zg (Zq 1 sc_l_long.nd (Zw c_l_numbers (hr.mono (by decide)) (Za (Zw c_l_cell (hr.mono (by decide)) (Za (Zc 0) (Za Zf Ze))) (Za Zf Ze))))
   (Zg (Zq 2 sc_l_long.nd (Zo Qp Zf (Zo Qk (Zz (Zc 1)) Zf)))
   (Zg (Kl 3 sc_l_long.nd (Kk Ze))
   (Zg (Xk PassesOwn.never rfl (Jr (Zw c_l_edges (hr.mono (by decide)) (Za Zf (Za (Zc 2) Ze)))) (Z7 4 sc_l_long.nd) (Zg (Zq 5 sc_l_long.nd (Zw c_l_out (hr.mono (by decide)) (Za Zf (Za (Zc 2) (Za (Zc 4) Ze)))))
   (Zm (Qh (Zr V3 (Zc 5) Q8 (Zy _)) (Zm (Vf 3 (Zo Qp (Zc 4) (Yz (Zr (Yc hr.units) (Zc 5) Zf (Zy _)) (Qe (Za Qj (Za Qj Ze))) (Qe (Za Qj (Za Qj Ze))))))) Z9))))
   (Zg (Zq 6 sc_l_long.nd (Zo Qn (Jw (X8 (Za Zf (Za (Lf W5 Zf) Ze))) (Zo Qk (Zz (Zc 1)) Zf) (fun _ _=>rfl)) (Zo Qp Zf (Zo Qk (Zz (Zc 1)) Zf))))
   (Zg (Zq 7 sc_l_long.nd (Qe (Za (Qe (Za (Zc 6) (Za Zf Ze))) (Za (Zw c_l_lowest (hr.mono (by decide)) (Za (Zo Jf (Zo Qk (Zz (Zc 1)) Zf) Zf) (Za (Zo Qp Zf (Zo Qk (Zz (Zc 1)) Zf)) Ze))) Ze))))
   (Zg (Zq 8 sc_l_long.nd (Zw c_l_point (hr.mono (by decide)) (Za (Zw c_l_cell (hr.mono (by decide)) (Za (Zc 0) (Za Zf Ze))) (Za Zf (Za (Zc 2) (Za Zf Ze))))))
   (Uh 3 (Zm (Zs (Zw c_l_is_back (hr.mono (by decide)) (Za (Qe (Za Zf (Za (Zc 2) (Za (Vz Rp (by rfl) z_tuple (by rfl) (Za (Qw Av (by rfl) z_sorted (by rfl) (Za (Zc 3) Ze)) Ze)) Ze)))) (Za (X8 Ze) (Za (Zc 8) (Za (Zc 7) (Za Zf (Za (X8 Ze) Ze)))))))))))))))))
noncomputable def Ls:List D->M S:=Ue 1 6
  (Zx (Xw (tB (Zl Xg (Zl Qa (Zl Yb (Zl Yu (Zv Qd (Zb (Zv Yf (Zb (Zd 0) (Zb ↑0 Zh))) (Zb ↑1 Zh))) ↑0) ↑3600) ↑16) ↑5)) (Qr (Zv Nb (Zb (Zd 0) Zh))) Q3)
   (Zx (Ps (Zv Ww (Zb (Zd 0) Zh)) (K0 3 (Q0 (Xf 1) (Q0 (Xf 2) (Q0 (Xf 3) Ve)))))
   (Zx (Ka (Kj (Zl Z8 (Xh (Zb (Zv Yf (Zb (Zd 0) (Zb ↑9 Zh))) Zh)) (Do (Zd 0) (Xq ↑10) (Xq ↑17)))) (Xf 4) (Zx (Z5 5 (Zv Wm (Zb (Zd 4) (Zb 1[0]! (Zb 1[1]! (Zb (Zd 3) (Zb (Zd 2) Zh)))))))
   (Zx (Z5 6 (Zl Qa (Zl Yb (Zd 4) ↑7) ↑13))
   (Xw (tN (tB (Zv Xu (Zb (Zd 1) (Zb (Zd 2) (Zb (Zd 3) (Zb (Zd 5) (Zb (Zd 6) (Zb (Xh (Zb (Zd 6) (Zb ↑12 Zh))) Zh))))))))) (Qr (eC (.bl false))) Q3))))
   (Qr (eC (.bl true))))))
def sc_law:FnScope ["_law_script","_law_hall_here","_law_people_here","_law_point_here","_law_cell_here","_law_step_here","_law_most"] ["_law_script"] (Zj Lq):=⟨rfl,rfl,rfl,by decide +kernel,rfl,by decide +kernel,by decide +kernel⟩
def Zii {f:Addr}{fd:FuncData} (F:Fun K "law" "law" Lq f fd) (c_l_numbers:Cl P w K mg base 1 "_law_numbers" ["_law_cell_here","_law_many"] Qd) (c_l_cell:Cl P w K mg base 1 "_law_cell" ["_law_script","_law_k"] Yf) (c_l_long:Cl P w K mg base 9 "_law_long" ["_law_script"] Nb) (c_l_drawn:Cl P w K mg base 5 "_law_drawn" ["_law_script"] Ww) (c_l_step:Cl P w K mg base 2 "_law_step" ["_law_cell_here","_law_width","_law_height","_law_point_here","_law_people_here"] Wm) (c_l_is_back:Cl P w K mg base 8 "_law_is_back" ["_law_hall_here","_law_people_here","_law_point_here","_law_step_here","_law_most","_law_mosts"] Xu):FnOk P w K mg base Y2 10 f fd ["_law_script"] (B1 K Ls):=
 Jl F sc_law rfl rfl fun cdv A outer s H E hr=>
  (Zg (Qh (Zr (Yc hr.units) (Zo Qk (Zo Yw (Zz (Zw c_l_numbers (hr.mono (by decide)) (Za (Zw c_l_cell (hr.mono (by decide)) (Za (Zc 0) (Za Zf Ze))) (Za Zf Ze)))) Zf) Zf) Zf (Zy _)) (Zm (Zs (Zw c_l_long (hr.mono (by decide)) (Za (Zc 0) Ze)))) Z9)
   (Zg (Gk (Zw c_l_drawn (hr.mono (by decide)) (Za (Zc 0) Ze)) (Ud rfl (Q6 (Z7 1 sc_law.nd) (Q6 (Z7 2 sc_law.nd) (Q6 (Z7 3 sc_law.nd) Kz)))))
   (Zg (Xk PassesOwn.never rfl (Jr (Zo Qp (X8 (Za (Zw c_l_cell (hr.mono (by decide)) (Za (Zc 0) (Za Zf Ze))) Ze)) (V1 (Zc 0) (Jq Zf) (Jq Zf)))) (Z7 4 sc_law.nd) (Zg (Zq 5 sc_law.nd (Zw c_l_step (hr.mono (by decide)) (Za (Zc 4) (Za (Zz (Zc 1)) (Za (Zz (Zc 1)) (Za (Zc 3) (Za (Zc 2) Ze)))))))
   (Zg (Zq 6 sc_law.nd (Zo Qk (Zo Yw (Zc 4) Zf) Zf))
   (Zm (Qh (Jn (Yq (Zw c_l_is_back (hr.mono (by decide)) (Za (Zc 1) (Za (Zc 2) (Za (Zc 3) (Za (Zc 5) (Za (Zc 6) (Za (X8 (Za (Zc 6) (Za Zf Ze))) Ze))))))))) (Zm (Zs Uy)) Z9)))))
   (Zm (Zs Uy)))))
end
def all_mk {l:PySem.W.OpenLaw}{w:World}{K:PySem.W.Frag}{h:Heap}{mg:Str->Option Value}{fa:Addr}(X:K.In h)(G:h.Ns mainGlobals mg) (hfa:mg "law"=some (.ref fa))
  (d_common_divisor:Dm K mg "common_divisor" Jy)
  (d_amount:Dm K mg "amount" Sj)
  (d_below:Dm K mg "below" M3)
  (d_is_whole:Dm K mg "is_whole" W8)
  (d_is_from_to:Dm K mg "is_from_to" Ul)
  (d_outward_face:Dm K mg "outward_face" K5)
  (d_faces:Dm K mg "faces" M4)
  (d_is_corner:Dm K mg "is_corner" Jj)
  (d_square_of:Dm K mg "square_of" Wd)
  (d_whole_time_of:Dm K mg "whole_time_of" Kb)
  (d_time_to:Dm K mg "time_to" N0)
  (d_person_ahead:Dm K mg "person_ahead" K6)
  (d_face_ahead:Dm K mg "face_ahead" Um)
  (d_thing_at:Dm K mg "thing_at" W9)
  (d_how_it_ends:Dm K mg "how_it_ends" Vu)
  (d_pass_line:Dm K mg "pass_line" We)
  (d_walk_on:Dm K mg "walk_on" Q7)
  (d_walk:Dm K mg "walk" D5)
  (d_l_cell:Dm K mg "_law_cell" Sk)
  (d_l_numbers:Dm K mg "_law_numbers" Wf)
  (d_l_lowest:Dm K mg "_law_lowest" Ga)
  (d_l_edges:Dm K mg "_law_edges" X0)
  (d_l_out:Dm K mg "_law_out" M5)
  (d_l_side:Dm K mg "_law_side" Sl)
  (d_l_hall:Dm K mg "_law_hall" Sm)
  (d_l_part:Dm K mg "_law_part" Sn)
  (d_l_point:Dm K mg "_law_point" N2)
  (d_l_people:Dm K mg "_law_people" Gb)
  (d_l_step:Dm K mg "_law_step" So)
  (d_l_is_number:Dm K mg "_law_is_number" Vw)
  (d_l_is_point:Dm K mg "_law_is_point" Uo)
  (d_l_is_walk:Dm K mg "_law_is_walk" Wg)
  (d_l_drawn:Dm K mg "_law_drawn" N3)
  (d_l_turned:Dm K mg "_law_turned" Jz)
  (d_l_is_back:Dm K mg "_law_is_back" Wh)
  (d_l_long:Dm K mg "_law_long" Sq)
  (d_law:Dm K mg "law" Lq)
  {C_Floor C_Track:Addr}
  (ya_Floor:PySem.W.nsIn K mainGlobals "Floor"=some (some (.ref C_Floor)))
  (ya_Track:PySem.W.nsIn K mainGlobals "Track"=some (some (.ref C_Track)))
  (e_Floor_init:Mm K C_Floor "__init__" "Floor.__init__" Kp)
  (e_people_at:Mm K C_Floor "people_at" "Floor.people_at" Wi)
  (e_faces_at:Mm K C_Floor "faces_at" "Floor.faces_at" Up)
  (e_Track_init:Mm K C_Track "__init__" "Track.__init__" Uq)
  (e_line_ahead:Mm K C_Track "line_ahead" "Track.line_ahead" Ur)
  (e_place_at:Mm K C_Track "place_at" "Track.place_at" Gc)
  (e_time_at:Mm K C_Track "time_at" "Track.time_at" N4)
  (e_go_on:Mm K C_Track "go_on" "Track.go_on" M6)
  (e_turn_back:Mm K C_Track "turn_back" "Track.turn_back" Wj)
  (og_Floor:PySem.W.plainGet K C_Floor Str.empty=true) (oh_Floor:PySem.W.hasDictIn K C_Floor=true) (oo_Floor:PySem.W.plainOver K C_Floor=true) (os_Floor:PySem.W.findIn K (.ref C_Floor) "__setattr__"=some (some (.builtin "object.__setattr__"))) (om_Floor:PySem.W.makesIn K C_Floor=true) (op_Floor:PySem.W.keepIn K (.ref C_Floor)=true)
  (on_Floor_hall:PySem.W.findIn K (.ref C_Floor) "hall"=some none)
  (on_Floor_known_faces:PySem.W.findIn K (.ref C_Floor) "known_faces"=some none)
  (on_Floor_by_square:PySem.W.findIn K (.ref C_Floor) "by_square"=some none)
  (og_Track:PySem.W.plainGet K C_Track Str.empty=true) (oh_Track:PySem.W.hasDictIn K C_Track=true) (oo_Track:PySem.W.plainOver K C_Track=true) (os_Track:PySem.W.findIn K (.ref C_Track) "__setattr__"=some (some (.builtin "object.__setattr__"))) (om_Track:PySem.W.makesIn K C_Track=true) (op_Track:PySem.W.keepIn K (.ref C_Track)=true)
  (on_Track_begin:PySem.W.findIn K (.ref C_Track) "begin"=some none)
  (on_Track_square:PySem.W.findIn K (.ref C_Track) "square"=some none)
  (on_Track_heading:PySem.W.findIn K (.ref C_Track) "heading"=some none)
  (on_Track_due:PySem.W.findIn K (.ref C_Track) "due"=some none)
  (on_Track_lap:PySem.W.findIn K (.ref C_Track) "lap"=some none)
  (z_abs:PySem.W.nsIn K mainGlobals "abs"=some none)
  (z_isinstance:PySem.W.nsIn K mainGlobals "isinstance"=some none)
  (z_int:PySem.W.nsIn K mainGlobals "int"=some none)
  (z_bool:PySem.W.nsIn K mainGlobals "bool"=some none)
  (z_any:PySem.W.nsIn K mainGlobals "any"=some none)
  (z_zip:PySem.W.nsIn K mainGlobals "zip"=some none)
  (z_max:PySem.W.nsIn K mainGlobals "max"=some none)
  (z_min:PySem.W.nsIn K mainGlobals "min"=some none)
  (z_len:PySem.W.nsIn K mainGlobals "len"=some none)
  (z_range:PySem.W.nsIn K mainGlobals "range"=some none)
  (z_sorted:PySem.W.nsIn K mainGlobals "sorted"=some none)
  (z_tuple:PySem.W.nsIn K mainGlobals "tuple"=some none)
  (z_all:PySem.W.nsIn K mainGlobals "all"=some none)
  (z_str:PySem.W.nsIn K mainGlobals "str"=some none)
  (z_list:PySem.W.nsIn K mainGlobals "list"=some none)
  : ∃fd:FuncData,(∀(s:Shared) (v:Value),BindsTo s fd ⟨[v],[]⟩ [("_law_script", v)])/\∀base:Heap,K.In base->base.Ns mainGlobals mg->FnOk l.prog w K mg base Y2 10 fa fd ["_law_script"] (B1 K Ls):=by
 obtain⟨_,fdL,FL,mL⟩:=d_law.ex
 obtain⟨oc,od,kV,dc,pm,an,cd,ct,sl,rfl,lk,hcd⟩:=FL.ex
 cases hfa.symm.trans mL
 refine⟨PySem.W.fnOf "law" "law" (Vb Lq) (Xj Lq) (Zj Lq) .none kV dc pm an cd ct,fun s v=>.of_eq rfl,fun base _ _=>?_⟩
 have z_abs:=PySem.W.mg_none_of X G z_abs
 have z_isinstance:=PySem.W.mg_none_of X G z_isinstance
 have z_int:=PySem.W.mg_none_of X G z_int
 have z_bool:=PySem.W.mg_none_of X G z_bool
 have z_any:=PySem.W.mg_none_of X G z_any
 have z_zip:=PySem.W.mg_none_of X G z_zip
 have z_max:=PySem.W.mg_none_of X G z_max
 have z_min:=PySem.W.mg_none_of X G z_min
 have z_len:=PySem.W.mg_none_of X G z_len
 have z_range:=PySem.W.mg_none_of X G z_range
 have z_sorted:=PySem.W.mg_none_of X G z_sorted
 have z_tuple:=PySem.W.mg_none_of X G z_tuple
 have z_all:=PySem.W.mg_none_of X G z_all
 have z_str:=PySem.W.mg_none_of X G z_str
 have z_list:=PySem.W.mg_none_of X G z_list
 have c_common_divisor:=G0 (P:=l.prog) (w:=w) (base:=base) d_common_divisor z_abs
 have c_amount:=Og d_amount c_common_divisor
 have c_below:=Zb1 (P:=l.prog) (w:=w) (base:=base) d_below
 have c_is_whole:=A7 (P:=l.prog) (w:=w) (base:=base) d_is_whole z_isinstance z_int z_bool
 have c_is_from_to:=Tn d_is_from_to c_is_whole
 have c_outward_face:=P0 (P:=l.prog) (w:=w) (base:=base) d_outward_face
 have c_faces:=Zb2 d_faces c_outward_face
 have c_is_corner:=M7 d_is_corner c_is_from_to z_any
 have c_square_of:=M9 (P:=l.prog) (w:=w) (base:=base) d_square_of
 have c_whole_time_of:=N5 (P:=l.prog) (w:=w) (base:=base) d_whole_time_of z_zip z_abs z_max
 have tcT:TkC K C_Track:=⟨⟨ya_Track,⟨og_Track,oh_Track,oo_Track,os_Track⟩⟩,on_Track_begin,on_Track_square,on_Track_heading,on_Track_due,on_Track_lap⟩
 have ocF:ObC K "Floor" C_Floor:=⟨ya_Floor,⟨og_Floor,oh_Floor,oo_Floor,os_Floor⟩⟩
 obtain⟨_,_,mM_Floor_init,FM_Floor_init⟩:=e_Floor_init.ex
 have bM_Floor_init:=FM_Floor_init.binds (ps:=["self","hall","people"]) fun _ _ _ _ _ _ us hl=>match us,hl with | [_,_,_],_=>rfl
 obtain⟨_,_,mM_people_at,FM_people_at⟩:=e_people_at.ex
 have bM_people_at:=FM_people_at.binds (ps:=["self","square"]) fun _ _ _ _ _ _ us hl=>match us,hl with | [_,_],_=>rfl
 obtain⟨_,_,mM_faces_at,FM_faces_at⟩:=e_faces_at.ex
 have bM_faces_at:=FM_faces_at.binds (ps:=["self","edge"]) fun _ _ _ _ _ _ us hl=>match us,hl with | [_,_],_=>rfl
 obtain⟨_,_,mM_Track_init,FM_Track_init⟩:=e_Track_init.ex
 have bM_Track_init:=FM_Track_init.binds (ps:=["self","begin","part","whole_time"]) fun _ _ _ _ _ _ us hl=>match us,hl with | [_,_,_,_],_=>rfl
 obtain⟨_,_,mM_line_ahead,FM_line_ahead⟩:=e_line_ahead.ex
 have bM_line_ahead:=FM_line_ahead.binds (ps:=["self"]) fun _ _ _ _ _ _ us hl=>match us,hl with | [_],_=>rfl
 obtain⟨_,_,mM_place_at,FM_place_at⟩:=e_place_at.ex
 have bM_place_at:=FM_place_at.binds (ps:=["self","time"]) fun _ _ _ _ _ _ us hl=>match us,hl with | [_,_],_=>rfl
 obtain⟨_,_,mM_time_at,FM_time_at⟩:=e_time_at.ex
 have bM_time_at:=FM_time_at.binds (ps:=["self","place"]) fun _ _ _ _ _ _ us hl=>match us,hl with | [_,_],_=>rfl
 obtain⟨_,_,mM_go_on,FM_go_on⟩:=e_go_on.ex
 have bM_go_on:=FM_go_on.binds (ps:=["self"]) fun _ _ _ _ _ _ us hl=>match us,hl with | [_],_=>rfl
 obtain⟨_,_,mM_turn_back,FM_turn_back⟩:=e_turn_back.ex
 have bM_turn_back:=FM_turn_back.binds (ps:=["self"]) fun _ _ _ _ _ _ us hl=>match us,hl with | [_],_=>rfl
 obtain⟨f_square_of,fd_square_of,g_square_of,b_square_of,k_square_of,m_square_of⟩:=c_square_of.ex
 obtain⟨S2,fd_amount,g_amount,b_amount,k_amount,m_amount⟩:=c_amount.ex
 obtain⟨F1,fd_faces,g_faces,b_faces,k_faces,m_faces⟩:=c_faces.ex
 have gM_turn_back:=Bb (P:=l.prog) (w:=w) (mg:=mg) (base:=base) FM_turn_back tcT
 have gM_go_on:=Zb4 (P:=l.prog) (w:=w) (mg:=mg) (base:=base) FM_go_on tcT
 have gM_Track_init:=To (P:=l.prog) (w:=w) (mg:=mg) (base:=base) FM_Track_init tcT g_square_of b_square_of k_square_of m_square_of z_abs
 have gM_line_ahead:=Tq (P:=l.prog) (w:=w) (mg:=mg) (base:=base) FM_line_ahead tcT
 have gM_place_at:=A9 (P:=l.prog) (w:=w) (mg:=mg) (base:=base) FM_place_at tcT mM_line_ahead gM_line_ahead bM_line_ahead g_amount b_amount k_amount m_amount
 have gM_time_at:=D6 (P:=l.prog) (w:=w) (mg:=mg) (base:=base) FM_time_at tcT mM_line_ahead gM_line_ahead bM_line_ahead g_amount b_amount k_amount m_amount
 have gM_people_at:=Bg (P:=l.prog) (w:=w) (mg:=mg) (base:=base) FM_people_at ocF on_Floor_by_square
 have gM_faces_at:=Cb (P:=l.prog) (w:=w) (mg:=mg) (base:=base) FM_faces_at ocF on_Floor_hall on_Floor_known_faces g_faces b_faces k_faces m_faces
 have gM_Floor_init:=Tt (P:=l.prog) (w:=w) (mg:=mg) (base:=base) FM_Floor_init ocF on_Floor_hall on_Floor_known_faces on_Floor_by_square g_square_of b_square_of k_square_of m_square_of
 obtain⟨Ly,fd_time_to,F_time_to,m_time_to⟩:=d_time_to.ex
 have k_time_to:=F_time_to.kp
 have b_time_to:=F_time_to.binds (ps:=["across","upward","person"]) fun _ _ _ _ _ _ us hl=>match us,hl with | [_,_,_],_=>rfl
 have g_time_to:=D7 (P:=l.prog) (w:=w) (mg:=mg) (base:=base) F_time_to tcT mM_time_at gM_time_at bM_time_at
 obtain⟨Rb,fd_below,g_below,b_below,k_below,m_below⟩:=c_below.ex
 obtain⟨f_person_ahead,fd_person_ahead,F_person_ahead,m_person_ahead⟩:=d_person_ahead.ex
 have k_person_ahead:=F_person_ahead.kp
 have b_person_ahead:=F_person_ahead.binds (ps:=["floor","across","upward","whole_time"]) fun _ _ _ _ _ _ us hl=>match us,hl with | [_,_,_,_],_=>rfl
 have g_person_ahead:=P3 (P:=l.prog) (w:=w) (mg:=mg) (base:=base) F_person_ahead tcT ocF mM_people_at gM_people_at bM_people_at g_time_to b_time_to k_time_to m_time_to g_below b_below k_below m_below
 obtain⟨f_face_ahead,fd_face_ahead,F_face_ahead,m_face_ahead⟩:=d_face_ahead.ex
 have k_face_ahead:=F_face_ahead.kp
 have b_face_ahead:=F_face_ahead.binds (ps:=["track","pair"]) fun _ _ _ _ _ _ us hl=>match us,hl with | [_,_],_=>rfl
 have g_face_ahead:=Ts (P:=l.prog) (w:=w) (mg:=mg) (base:=base) F_face_ahead tcT
 obtain⟨f_is_corner,fd_is_corner,g_is_corner,b_is_corner,k_is_corner,m_is_corner⟩:=c_is_corner.ex
 obtain⟨f_thing_at,fd_thing_at,F_thing_at,m_thing_at⟩:=d_thing_at.ex
 have k_thing_at:=F_thing_at.kp
 have b_thing_at:=F_thing_at.binds (ps:=["floor","across","upward","now"]) fun _ _ _ _ _ _ us hl=>match us,hl with | [_,_,_,_],_=>rfl
 have g_thing_at:=Cd (P:=l.prog) (w:=w) (mg:=mg) (base:=base) F_thing_at tcT ocF on_Floor_hall mM_line_ahead gM_line_ahead bM_line_ahead g_is_corner b_is_corner k_is_corner m_is_corner mM_faces_at gM_faces_at bM_faces_at g_face_ahead b_face_ahead k_face_ahead m_face_ahead
 have c_how_it_ends:=Ss (P:=l.prog) (w:=w) (base:=base) d_how_it_ends
 obtain⟨f_pass_line,fd_pass_line,F_pass_line,m_pass_line⟩:=d_pass_line.ex
 have k_pass_line:=F_pass_line.kp
 have b_pass_line:=F_pass_line.binds (ps:=["track","now","thing"]) fun _ _ _ _ _ _ us hl=>match us,hl with | [_,_,_],_=>rfl
 have g_pass_line:=Be (P:=l.prog) (w:=w) (mg:=mg) (base:=base) F_pass_line tcT mM_turn_back gM_turn_back bM_turn_back mM_go_on gM_go_on bM_go_on
 obtain⟨f_whole_time_of,fd_whole_time_of,g_whole_time_of,b_whole_time_of,k_whole_time_of,m_whole_time_of⟩:=c_whole_time_of.ex
 obtain⟨f_how_it_ends,fd_how_it_ends,g_how_it_ends,b_how_it_ends,k_how_it_ends,m_how_it_ends⟩:=c_how_it_ends.ex
 obtain⟨f_walk_on,fd_walk_on,F_walk_on,m_walk_on⟩:=d_walk_on.ex
 have k_walk_on:=F_walk_on.kp
 have b_walk_on:=F_walk_on.binds (ps:=["floor","point","step","most"]) fun _ _ _ _ _ _ us hl=>match us,hl with | [_,_,_,_],_=>rfl
 have g_walk_on:=D9 (P:=l.prog) (w:=w) (mg:=mg) (base:=base) F_walk_on tcT ocF g_whole_time_of b_whole_time_of k_whole_time_of m_whole_time_of ⟨om_Track,mM_Track_init.at_,mM_Track_init.fn,op_Track⟩ gM_Track_init bM_Track_init (PySem.W.mg_of X G ya_Track) g_person_ahead b_person_ahead k_person_ahead m_person_ahead g_thing_at b_thing_at k_thing_at m_thing_at g_how_it_ends b_how_it_ends k_how_it_ends m_how_it_ends mM_place_at gM_place_at bM_place_at g_pass_line b_pass_line k_pass_line m_pass_line z_min z_len
 obtain⟨f_walk,fd_walk,F_walk,m_walk⟩:=d_walk.ex
 have k_walk:=F_walk.kp
 have b_walk:=F_walk.binds (ps:=["hall","people","point","step","most"]) fun _ _ _ _ _ _ us hl=>match us,hl with | [_,_,_,_,_],_=>rfl
 have g_walk:=Zb7 (P:=l.prog) (w:=w) (mg:=mg) (base:=base) F_walk ⟨om_Floor,mM_Floor_init.at_,mM_Floor_init.fn,op_Floor⟩ gM_Floor_init bM_Floor_init (PySem.W.mg_of X G ya_Floor) g_walk_on b_walk_on k_walk_on m_walk_on
 have c_walk:Cl l.prog w K mg base 7 "walk" ["hall","people","point","step","most"] Law.F_walk:=⟨_,_,g_walk,b_walk,k_walk,m_walk⟩
 have c_l_cell:=Oj (P:=l.prog) (w:=w) (base:=base) d_l_cell
 have c_l_numbers:=Bi (P:=l.prog) (w:=w) (base:=base) d_l_numbers z_abs z_range z_int
 have c_l_lowest:=Ce (P:=l.prog) (w:=w) (base:=base) d_l_lowest z_abs
 have c_l_edges:=Ea (P:=l.prog) (w:=w) (base:=base) d_l_edges z_range
 have c_l_out:=Zb8 (P:=l.prog) (w:=w) (base:=base) d_l_out
 have c_l_side:=Ol d_l_side c_l_out
 have c_l_hall:=Om d_l_hall c_l_edges c_l_numbers c_l_side z_len z_zip z_sorted z_tuple
 have c_l_part:=On d_l_part c_l_lowest
 have c_l_point:=Eb d_l_point c_l_numbers c_l_part
 have c_l_people:=Cf d_l_people c_l_point
 have c_l_step:=Oo d_l_step c_l_numbers c_l_lowest z_len z_range
 have c_l_is_number:=Sw d_l_is_number c_l_lowest z_isinstance z_tuple z_len z_int z_bool
 have c_l_is_point:=Tv d_l_is_point c_l_is_number z_isinstance z_tuple z_len z_all
 have c_l_is_walk:=Bl d_l_is_walk c_l_is_point z_isinstance z_tuple z_len z_str z_list z_all
 have c_l_drawn:=Ec d_l_drawn c_l_numbers c_l_cell c_l_hall c_l_people c_l_point z_len
 have c_l_turned:=Cg (P:=l.prog) (w:=w) (base:=base) d_l_turned z_range z_len z_tuple
 have c_l_is_back:=Bm d_l_is_back c_walk c_l_is_walk c_l_turned z_list z_len
 have c_l_long:=Op d_l_long c_l_numbers c_l_cell c_l_edges c_l_out c_l_lowest c_l_point c_l_is_back z_sorted z_tuple
 exact Zii FL c_l_numbers c_l_cell c_l_long c_l_drawn c_l_step c_l_is_back
theorem Lu {K:PySem.W.Frag}{H:Hp}:∀ns:List Int,Reps K H (ns.map D.int) (ns.map V.int)
 |[]=>Reps.nil
 |_::ns=>Reps.cons (rep_int.mpr rfl) (Lu ns)
def walk {l:PySem.W.OpenLaw}{q:Program}{loose:List Str}{XP:(Str->Option Value)->Heap->Prop}{YP:World->Heap->Prop}{d:DefRec}{K:Params->PySem.W.Frag}(hn:l.most=some 63)(hdf:d.params.defaults=[])(hT:∀ns:List Int,ns.length<=63->Ls [.lst (ns.map D.int)]=.ok (.im (.bl true)))(hY:∀(w:World) (h:Heap),YP w h->(K w.params).In h)
  (F:∀(w:World) (mg:Str->Option Value) (fa:Addr) (h:Heap),(K w.params).In h->h.Ns mainGlobals mg->mg d.name=some (.ref fa) ->
   ∃fd:FuncData,(∀(s:Shared) (u:Value),BindsTo s fd ⟨[u],[]⟩ [("_law_script", u)])/\∀base:Heap,(K w.params).In base->base.Ns mainGlobals mg->FnOk l.prog w (K w.params) mg base Y2 10 fa fd ["_law_script"] (B1 (K w.params) Ls)):
  PySem.W.WalkO q loose XP YP l.row.toRowW d [] (fun f vs=>PySem.call f vs):=
 L2.Zd8 (n:=63) (k:=10) (x:="_law_script") (CX:=fun w=>Y2) (sp:=fun w=>B1 (K w.params) Ls) hn (by decide) hdf ⟨rfl,by decide,by decide⟩ hY F
  (fun w H a ns hl _ hS=>⟨H,[.lst (ns.map D.int)],.im (.bl true),Same.refl _,Reps.cons (rep_lst.mpr ⟨a,ns.map V.int,rfl,hS,Lu ns⟩) Reps.nil,hT ns hl,fun v Hf' H' _ r=>(rep_bl (K:=K w.params) (H:=Hf')).mp r⟩) fun _ _ _ _ _ z=>z
def Ze3 {k:Nat}(h:k<=900):10 ^ k<2 ^ 4000:=by
 have h1:(10:Nat) ^ k<=16 ^ k:=Nat.pow_le_pow_left (by decide) k
 have h2:(16:Nat) ^ k=2 ^ (4*k):=by rw[show(16:Nat)=2 ^ 4 from rfl,<-Nat.pow_mul]
 have h3:(2:Nat) ^ (4*k)<2 ^ 4000:=Nat.pow_lt_pow_right (by decide) (by lia)
 lia
def Yi {x:Int}{k:Nat}(h:x.natAbs<=10 ^ k)(hk:k<=900):sm x=true:=sm_iff.mpr (Nat.lt_of_le_of_lt h (Ze3 hk))
def Q4 {x y:Int}{j k:Nat}(hx:x.natAbs<=10 ^ j)(hy:y.natAbs<=10 ^ k):(x*y).natAbs<=10 ^ (j+k):=by
 rw[Int.natAbs_mul,Nat.pow_add]
 exact Nat.mul_le_mul hx hy
def Nd {x y:Int}{k:Nat}(hx:x.natAbs<=10 ^ k)(hy:y.natAbs<=10 ^ k):(x-y).natAbs<=10 ^ (k+1):=by
 have:=Int.natAbs_sub_le x y
 rw[Nat.pow_succ]
 lia
def Zij (n:Nat):Ru 0 n=(List.range n).map fun(k:Nat)=>D.int (k:Int):=by
 unfold Ru;simp
def Zik {fs:Zi->M (List D)}{sd:Zi}{n:Nat}(h:fs sd=.ok [.int (n:Int)])(hn:n<=1000):Yg fs sd=.ok ((List.range n).map fun(k:Nat)=>D.int (k:Int)):=by
 simp[Yg,h,Zij]
 lia
def Y8 {ds:List D}(h:ds.length<=1000000):few ds=true:=decide_eq_true h
def Ze4 (m:Nat)(f:Zi->M O)(a0:D):Ue 1 m f [a0]=Nr (f ([some (S.im a0)]++List.replicate m none)):=rfl
def Zf9 (m:Nat)(f:Zi->M O)(a0 a1:D):Ue 2 m f [a0,a1]=Nr (f ([some (S.im a0),some (S.im a1)]++List.replicate m none)):=rfl
def Zga (m:Nat)(f:Zi->M O)(a0 a1 a2:D):Ue 3 m f [a0,a1,a2]=Nr (f ([some (S.im a0),some (S.im a1),some (S.im a2)]++List.replicate m none)):=rfl
def Zdj (m:Nat)(f:Zi->M O)(a0 a1 a2 a3:D):Ue 4 m f [a0,a1,a2,a3]=Nr (f ([some (S.im a0),some (S.im a1),some (S.im a2),some (S.im a3)]++List.replicate m none)):=rfl
def Zjc (m:Nat)(f:Zi->M O)(a0 a1 a2 a3 a4:D):Ue 5 m f [a0,a1,a2,a3,a4]=Nr (f ([some (S.im a0),some (S.im a1),some (S.im a2),some (S.im a3),some (S.im a4)]++List.replicate m none)):=rfl
def Ze5 {f g:Zi->M O}{sd sd':Zi}(h:f sd=.ok (.nx sd')):Zx f g sd=g sd':=by unfold Zx;rw[h];rfl
def Ya {f g:Zi->M O}{sd:Zi}{s:S}(h:f sd=.ok (.rt s)):Zx f g sd=.ok (.rt s):=by unfold Zx;rw[h];rfl
def Ys {fi:Zi->M (List D)}{g:D->Zi->M Zi}{f:Zi->M O}{sd:Zi}{ds:List D}(h:fi sd=.ok ds):Ka fi g f sd=Xa g f ds sd:=by unfold Ka;rw[h];rfl
def go {f g:Zi->M O}{sd sd':Zi}{r:M O}(h:f sd=.ok (.nx sd'))(k:g sd'=r):Zx f g sd=r:=(Ze5 h).trans k
def Z6 {r:M O}{s:S}(h:r=.ok (.rt s)):Nr r=.ok s:=by rw[h];rfl
def X3 (i:Nat)(sd:Zi):Rx i (Rw Zh) sd=.ok (.nx (sd.set i (some (.ow [])))):=by
 unfold Rx Rw Zh
 rw[M.bind_ok,Y8 (Nat.zero_le _),if_pos rfl,M.bind_ok]
def Zkp {n:Nat}(h:n<=10 ^ 30):n<2 ^ 4000:=by
 have h1:(10:Nat) ^ 30<=16 ^ 30:=Nat.pow_le_pow_left (by decide) 30
 have h2:(16:Nat) ^ 30=2 ^ 120:=by rw[show(16:Nat)=2 ^ 4 from rfl,<-Nat.pow_mul]
 have h3:(2:Nat) ^ 120<2 ^ 4000:=Nat.pow_lt_pow_right (by decide) (by decide)
 lia
def Ch {x:Int}(h:-1000000000000000000000000000000<=x)(h':x<=1000000000000000000000000000000):sm x=true:=sm_iff.mpr (Zkp (by have:(10:Nat) ^ 30=1000000000000000000000000000000:=rfl;lia))
def gT {i j:Int}(hi:sm i=true)(hj:sm j=true):Qb (.int i) (.int j)=.ok (.int (i*j)):=by
 show(if(sm i&&sm j)=true then _ else _)=_
 rw[hi,hj];rfl
def Ci {i j:Int}(hj:0<j)(hs:sm j=true):Yb (.int i) (.int j)=.ok (.int (i/j)):=by
 show(if(j != 0&&sm j)=true then M.ok (D.int (i.fdiv j)) else _)=_
 have:(j != 0)=true:=by simp;lia
 rw[this,hs,Int.fdiv_eq_ediv_of_nonneg i (by lia)];rfl
def gM {i j:Int}(hj:0<j):Qa (.int i) (.int j)=.ok (.int (i%j)):=by
 show(if(j != 0)=true then M.ok (D.int (i.fmod j)) else _)=_
 have:(j != 0)=true:=by simp;lia
 rw[this,Int.fmod_eq_emod_of_nonneg i (by lia)];rfl
def Zil {a b:Int}{A B:Int}(ha:0<=a)(ha':a<=A)(hb:0<=b)(hb':b<=B):0<=a*b/\a*b<=A*B:=⟨Int.mul_nonneg ha hb,Int.mul_le_mul ha' hb' hb (by lia)⟩
def Z1 {i:Nat}{f:Zi->M D}{sd:Zi}{d:D}(h:f sd=.ok d):Z5 i f sd=.ok (.nx (sd.set i (some (.im d)))):=by unfold Z5;rw[h];rfl
def Zt {F:List D->M S}{fs:Zi->M (List D)}{sd:Zi}{ds:List D}{s:S}{d:D}(h1:fs sd=.ok ds)(h2:F ds=.ok s)(h3:s.toD=.ok d):Zv F fs sd=.ok d:=by
 unfold Zv;rw[h1,M.bind_ok,h2];exact h3
def a1 {fa:Zi->M D}{sd:Zi}{d:D}(h:fa sd=.ok d):Zb fa Zh sd=.ok [d]:=by unfold Zb Zh;rw[h];rfl
def aC {fa:Zi->M D}{fr:Zi->M (List D)}{sd:Zi}{d:D}{ds:List D}(h:fa sd=.ok d)(h2:fr sd=.ok ds):Zb fa fr sd=.ok (d::ds):=by unfold Zb;rw[h,M.bind_ok,h2];rfl
def Z4 {f:Zi->M D}{sd:Zi}{d:D}(h:f sd=.ok d):Qr f sd=.ok (.rt (.im d)):=by unfold Qr;rw[h];rfl
def Xd {g:List D->M D}{fs:Zi->M (List D)}{sd:Zi}{ds:List D}{r:M D}(h1:fs sd=.ok ds)(h2:g ds=r):J2 g fs sd=r:=by unfold J2;rw[h1];exact h2
def Ye {g:D->Zi->M Zi}{f:Zi->M O}{d:D}{r:List D}{sd sd1 sd2:Zi}(h1:g d sd=.ok sd1)(h2:f sd1=.ok (.nx sd2)):Xa g f (d::r) sd=Xa g f r sd2:=by
 simp only[Xa,h1,h2,M.bind_ok]
def Yt {α:Type}(x:α)(r:List α):Rm (x::r) 0=some x:=by
 have:=Xx (xs:=x::r) (j:=0) (v:=x) rfl
 exact this
def Xi {α:Type}(x y:α)(r:List α):Rm (x::y::r) 1=some y:=by
 have:=Xx (xs:=x::y::r) (j:=1) (v:=y) rfl
 exact this
def B2 {x:Int}(h:-1000000000<=x)(h':x<=1000000000):sm x=true:=Ch (by lia) (by lia)
def Z2 {c:Zi->M Bool}{f:Zi->M O}{sd:Zi}(h:c sd=.ok false):Xw c f Q3 sd=.ok (.nx sd):=by unfold Xw;rw[h];rfl
def Lw {f g:Zi->M Bool}{sd:Zi}(h1:f sd=.ok false)(h2:g sd=.ok false):DL.tO f g sd=.ok false:=by unfold DL.tO;rw[h1];exact h2
def Sx {f:Zi->M Bool}{sd:Zi}(h:f sd=.ok true):DL.tN f sd=.ok false:=by unfold DL.tN;rw[h];rfl
def Qg {f:Zi->M D}{sd:Zi}{b:Bool}(h:f sd=.ok (.bl b)):DL.tB f sd=.ok b:=by unfold DL.tB;rw[h];rfl
def Zk {g:D->D->M D}{fa fb:Zi->M D}{sd:Zi}{x y:D}{r:M D}(h1:fa sd=.ok x)(h2:fb sd=.ok y)(h3:g x y=r):Zl g fa fb sd=r:=by unfold Zl;rw[h1,M.bind_ok,h2,M.bind_ok,h3]
def Bn {f g:Zi->M D}{sd:Zi}{r:M D}(h1:f sd=.ok (.bl true))(h2:g sd=r):Pq f g sd=r:=by unfold Pq;rw[h1,M.bind_ok];exact h2
def Ql {c:Zi->M Bool}{f g:Zi->M O}{sd:Zi}{r:M O}(h:c sd=.ok true)(k:f sd=r):Xw c f g sd=r:=by unfold Xw;rw[h];exact k
def Fs {c:Zi->M Bool}{f g:Zi->M O}{sd:Zi}{r:M O}(h:c sd=.ok false)(k:g sd=r):Xw c f g sd=r:=by unfold Xw;rw[h];exact k
def Zmc {f g:Zi->M Bool}{sd:Zi}(h1:f sd=.ok true):DL.tO f g sd=.ok true:=by unfold DL.tO;rw[h1];rfl
def Zmd {f g:Zi->M Bool}{sd:Zi}{r:M Bool}(h1:f sd=.ok false)(h2:g sd=r):DL.tO f g sd=r:=by unfold DL.tO;rw[h1];exact h2
def Zme {f:Zi->M Bool}{sd:Zi}{b:Bool}(h:f sd=.ok b):DL.tN f sd=.ok (!b):=by unfold DL.tN;rw[h];rfl
def Oq {f g:Zi->M Bool}{sd:Zi}(h1:f sd=.ok false):DL.tA f g sd=.ok false:=by unfold DL.tA;rw[h1];rfl
def Sy {f g:Zi->M Bool}{sd:Zi}{r:M Bool}(h1:f sd=.ok true)(h2:g sd=r):DL.tA f g sd=r:=by unfold DL.tA;rw[h1];exact h2
def Zkq {f g:Zi->M D}{sd:Zi}(h1:f sd=.ok (.bl false)):Pq f g sd=.ok (.bl false):=by unfold Pq;rw[h1];rfl
def Vn {c:Zi->M Bool}{f g:Zi->M D}{sd:Zi}{r:M D}(h:c sd=.ok true)(k:f sd=r):Nn c f g sd=r:=by unfold Nn;rw[h];exact k
def V6 {c:Zi->M Bool}{f g:Zi->M D}{sd:Zi}{r:M D}(h:c sd=.ok false)(k:g sd=r):Nn c f g sd=r:=by unfold Nn;rw[h];exact k
def Os {α:Type}(x y z:α)(r:List α):Rm (x::y::z::r) 2=some z:=Xx (xs:=x::y::z::r) (j:=2) (v:=z) rfl
def Zmf {α:Type}(x y z u:α)(r:List α):Rm (x::y::z::u::r) 3=some u:=Xx (xs:=x::y::z::u::r) (j:=3) (v:=u) rfl
def Zb9:Zi->M O:=(Zx (Z5 3 (Zl Qa (Zl Z8 (Zl Z8 (Zl Qb (Zd 3) (Zl Z8 (Zl Qa (Zd 3) ↑65521) ↑40487)) (Zl Qb ↑7 (Zd 5))) ↑5) ↑1999999973))
   (Zx (Vt 2 (Zl Yu (Xh (Zb (Zd 3) (Zb (Zl Qa (Zd 4) ↑1000000) Zh))) (J2 Iu (Zb (Zl Gh (Zd 4) ↑0) Zh))))
   (Z5 4 (Zl Yb (Zd 4) ↑1000000))))
def Ze6 (d:Int):Prop:=0<=d/\d<1999999973
def Ze7 (s0 s1:Option S)(ds:List D)(hd:ds.length<=1000)(N R K:Int)(hN:0<=N)(hN':N<1999999973)(hK:0<=K)(hK':K<=1000):
  ∃d N':Int,0<=N'/\N'<1999999973/\Ze6 d/\Zb9 [s0,s1,some (.ow ds),some (.im (.int N)),some (.im (.int R)),some (.im (.int K))] =
   .ok (.nx [s0,s1,some (.ow (ds++[.int d])),some (.im (.int N')),some (.im (.int (R/1000000))),some (.im (.int K))]):=by
 have q1:0<=N%65521:=Int.emod_nonneg _ (by decide)
 have q2:N%65521<65521:=Int.emod_lt_of_pos _ (by decide)
 have g1:=gM (i:=N) (j:=65521) (by decide)
 have g2:=gT (i:=N) (j:=N%65521+40487) (Ch (by lia) (by lia)) (Ch (by lia) (by lia))
 have g3:=gT (i:=7) (j:=K) (Ch (by lia) (by lia)) (Ch (by lia) (by lia))
 have g4:=gM (i:=N*(N%65521+40487)+7*K+5) (j:=1999999973) (by decide)
 have e1:Z5 3 (Zl Qa (Zl Z8 (Zl Z8 (Zl Qb (Zd 3) (Zl Z8 (Zl Qa (Zd 3) ↑65521) ↑40487)) (Zl Qb ↑7 (Zd 5))) ↑5) ↑1999999973)
   [s0,s1,some (.ow ds),some (.im (.int N)),some (.im (.int R)),some (.im (.int K))] =
   .ok (.nx [s0,s1,some (.ow ds),some (.im (.int ((N*(N%65521+40487)+7*K+5)%1999999973))),some (.im (.int R)),some (.im (.int K))]):=by
  simp[Z5,Zl,Zd,eC,g1,Z8,g2,g3,g4]
 have b1:0<=(N*(N%65521+40487)+7*K+5)%1999999973:=Int.emod_nonneg _ (by decide)
 have b2:(N*(N%65521+40487)+7*K+5)%1999999973<1999999973:=Int.emod_lt_of_pos _ (by decide)
 generalize (N*(N%65521+40487)+7*K+5)%1999999973=N' at e1 b1 b2
 have f1:few ds=true:=Y8 (by lia)
 have g5:=gM (i:=R) (j:=1000000) (by decide)
 have g8:=Ci (i:=R) (j:=1000000) (by decide) (Ch (by decide) (by decide))
 have f2:few [D.int N',D.int (R%1000000)]=true:=Y8 (by simp)
 by_cases hR:R > 0
 ·have p1:0<=R%1000000:=Int.emod_nonneg _ (by decide)
  have p2:R%1000000<1000000:=Int.emod_lt_of_pos _ (by decide)
  refine⟨R%1000000,N',b1,b2,⟨p1,by lia⟩,go e1 ?_⟩
  simp[Zx,Vt,Zl,Xh,Zb,Zh,Zd,eC,g5,f2,J2,Gh,Eu,hR,Iu,Yu,Xi,f1,Z5,g8]
 ·refine⟨N',N',b1,b2,⟨b1,b2⟩,go e1 ?_⟩
  simp[Zx,Vt,Zl,Xh,Zb,Zh,Zd,eC,g5,f2,J2,Gh,Eu,hR,Iu,Yu,Yt,f1,Z5,g8]
theorem Ft (s0 s1:Option S):∀(ks:List Nat) (ds:List Int) (N R:Int) (v:Option S),ds.length+ks.length<=1000->(∀k∈ks,k<=1000)->0<=N->N<1999999973->(∀d∈ds,Ze6 d) ->
  ∃(es:List Int) (N' R':Int) (v':Option S),es.length=ds.length+ks.length/\(∀d∈es,Ze6 d)/\Xa (Xf 5) Zb9 (ks.map fun(k:Nat)=>D.int (k:Int)) [s0,s1,some (.ow (ds.map D.int)),some (.im (.int N)),some (.im (.int R)),v] =
   .ok (.nx [s0,s1,some (.ow (es.map D.int)),some (.im (.int N')),some (.im (.int R')),v'])
 |[],ds,N,R,v,_,_,_,_,hd=>⟨ds,N,R,v,by simp,hd,by simp[Xa]⟩
 |k::ks,ds,N,R,v,h,hk,hN,hN',hd=>by
  rw[List.length_cons] at h
  have hk0:=hk k List.mem_cons_self
  obtain⟨d,N1,h1,h2,h3,e⟩:=Ze7 s0 s1 (ds.map D.int) (by simp;lia) N R (k:Int) hN hN' (by lia) (by lia)
  obtain⟨es,N',R',v',hl,ho,ih⟩:=Ft s0 s1 ks (ds++[d]) N1 (R/1000000) (some (.im (.int (k:Int)))) (by simp;lia) (fun k hk'=>hk k (List.mem_cons_of_mem _ hk')) h1 h2 (fun d' hd'=>by
   rcases List.mem_append.mp hd' with q|q
   ·exact hd d' q
   ·have:d'=d:=by simpa using q
    rw[this];exact h3)
  refine⟨es,N',R',v',by rw[hl];simp;lia,ho,?_⟩
  rw[List.map_append,List.map_cons,List.map_nil] at ih
  rw[<-ih]
  simp[Xa,Xf,e]
def Kw (c:Int)(n:Nat)(hn:n<=1000):∃es:List Int,es.length=n/\(∀d∈es,Ze6 d)/\Qd [.int c,.int (n:Int)]=.ok (.ow (es.map D.int)):=by
 have g1:=gM (i:=c) (j:=1999999973) (by decide)
 have q1:0<=c%1999999973:=Int.emod_nonneg _ (by decide)
 have q2:c%1999999973<1999999973:=Int.emod_lt_of_pos _ (by decide)
 have g2:=gT (i:=c%1999999973+31) (j:=765432101) (Ch (by lia) (by lia)) (Ch (by lia) (by lia))
 have g3:=gM (i:=(c%1999999973+31)*765432101) (j:=1999999973) (by decide)
 have g4:Zeb (.int 10) (.int 18)=.ok (.int 1000000000000000000):=rfl
 have b1:0<=(c%1999999973+31)*765432101%1999999973:=Int.emod_nonneg _ (by decide)
 have b2:(c%1999999973+31)*765432101%1999999973<1999999973:=Int.emod_lt_of_pos _ (by decide)
 have e2:Z5 3 (Zl Qa (Zl Qb (Zl Z8 (Zl Qa (Zd 0) ↑1999999973) ↑31) ↑765432101) ↑1999999973) [some (.im (.int c)),some (.im (.int (n:Int))),some (.ow []),none,none,none] =
   .ok (.nx [some (.im (.int c)),some (.im (.int (n:Int))),some (.ow []),some (.im (.int ((c%1999999973+31)*765432101%1999999973))),none,none]):=by
  simp[Z5,Zl,Zd,eC,g1,Z8,g2,g3]
 generalize (c%1999999973+31)*765432101%1999999973=N at e2 b1 b2
 obtain⟨R,e4⟩:∃R:Int,(Xw (DL.tO (DL.tB (Zl Zau (Zd 0) ↑0)) (DL.tB (Zl Zj6 (Zd 0) (Zl Zeb ↑10 ↑18)))) (Z5 4 (J2 Wy (Zb (Zd 0) Zh))) Q3) [some (.im (.int c)),some (.im (.int (n:Int))),some (.ow []),some (.im (.int N)),some (.im (.int 0)),none] =
   .ok (.nx [some (.im (.int c)),some (.im (.int (n:Int))),some (.ow []),some (.im (.int N)),some (.im (.int R)),none]):=by
  by_cases h1:c<0
  ·exact⟨-c,by simp[Xw,DL.tO,DL.tB,Zl,Zd,eC,Zau,Eu,h1,asB,Z5,J2,Wy,Zb,Zh]⟩
  ·by_cases h2:1000000000000000000<=c
   ·exact⟨c,by simp[Xw,DL.tO,DL.tB,Zl,Zd,eC,Zau,Zj6,Eu,h1,h2,g4,asB,Z5,J2,Wy,Zb,Zh]⟩
   ·exact⟨0,by simp[Xw,DL.tO,DL.tB,Zl,Zd,eC,Zau,Zj6,Eu,h1,h2,g4,asB,Z5,J2,Wy,Zb,Zh,Q3]⟩
 obtain⟨es,N',R',v',hl,ho,e5⟩:=Ft (some (.im (.int c))) (some (.im (.int (n:Int)))) (List.range n) [] N R none (by simp;lia) (fun k hk=>by have:=List.mem_range.mp hk;lia) b1 b2 (fun d hd=>by simp at hd)
 refine⟨es,by simpa using hl,ho,?_⟩
 have r1:∀s0 s,Yg (Zb (Zd 1) Zh) (s0::some (.im (.int (n:Int)))::s)=.ok ((List.range n).map fun(k:Nat)=>D.int (k:Int)):=fun s0 s=>Zik (by simp[Zb,Zh,Zd]) hn
 exact(Zf9 _ _ _ _).trans (Z6 (go (X3 2 _) (go e2 (go rfl (go e4 (go ((Ys (r1 _ _)).trans e5) rfl))))))
def Kc {fa fb:Zi->M D}{sd:Zi}{a b:D}(h1:fa sd=.ok a)(h2:fb sd=.ok b):Qq (Zb fa (Zb fb Zh)) sd=.ok (.tup [a,b]):=by
 unfold Qq;rw[aC h1 (a1 h2)];rfl
def Kd {fs:Zi->M (List D)}{sd:Zi}{ds:List D}(h:fs sd=.ok ds)(hf:few ds=true):Xh fs sd=.ok (.lst ds):=by
 unfold Xh
 rw[h,M.bind_ok,if_pos hf]
def Kg {x y:D}(h:x.dep<=60):Xg x y=.ok (.bl (D.eq x y)):=if_pos h
def V7 {x y:D}(h:x.dep<=60):W0 x y=.ok (.bl (!D.eq x y)):=if_pos h
def Q5 (a b:Int):Xg (.int a) (.int b)=.ok (.bl (a==b)):=by rw[Kg (by simp[D.dep])];simp only[D.eq]
def Zkr {f g:Zi->M Bool}{sd:Zi}{a b:Bool}(h1:f sd=.ok a)(h2:g sd=.ok b):DL.tO f g sd=.ok (a||b):=by
 cases a
 ·exact Zmd h1 h2
 ·exact Zmc h1
def Zca {f g:Zi->M Bool}{sd:Zi}{a b:Bool}(h1:f sd=.ok a)(h2:g sd=.ok b):DL.tA f g sd=.ok (a&&b):=by
 cases a
 ·exact Oq h1
 ·exact Sy h1 h2
def Zcb {f g:Zi->M D}{sd:Zi}{a b:Bool}(h1:f sd=.ok (.bl a))(h2:g sd=.ok (.bl b)):Pq f g sd=.ok (.bl (a&&b)):=by
 cases a
 ·exact Zkq h1
 ·exact Bn h1 h2
theorem Uu {n:Nat}:∀{l:List D},(∀d∈l,d.dep<=n)->D.deps l<=n
 |[],_=>by simp[D.deps]
 |a::r,h=>by
  simp only[D.deps]
  have:=h a (by simp)
  have:=Uu (l:=r) fun d hd=>h d (by simp[hd])
  lia
def N9 {i:Nat}{f:Zi->M D}{sd:Zi}{ds:List D}{d:D}(h:sd[i]?=some (some (.ow ds)))(hf:f sd=.ok d)(hl:ds.length<=1000):Vt i f sd=.ok (.nx (sd.set i (some (.ow (ds++[d]))))):=by
 unfold Vt
 rw[h]
 dsimp only
 rw[hf,M.bind_ok,Y8 (by lia),if_pos rfl]
def Cj {f:Zi->M D}{sd:Zi}{ds:List D}(h:f sd=.ok (.tup ds)):Kj f sd=.ok ds:=by
 unfold Kj
 rw[h]
 rfl
def Sz {f:Zi->M D}{sd:Zi}{ds:List D}(h:f sd=.ok (.lst ds)):Kj f sd=.ok ds:=by
 unfold Kj
 rw[h]
 rfl
theorem Zcc {α:Type}{gt:D->Zi->M Zi}{fe:Zi->M D}{sd0:Zi}(e g:α->D):∀l:List α,(∀a∈l,∃sd1,gt (e a) sd0=.ok sd1/\fe sd1=.ok (g a))->W4 gt fe sd0 (l.map e)=.ok (l.map g)
 |[],_=>rfl
 |a::l,h=>by
  obtain⟨sd1,h1,h2⟩:=h a (by simp)
  rw[List.map_cons,List.map_cons]
  simp only[W4,h1,h2,Zcc e g l fun b hb=>h b (by simp[hb])]
def Ed {xs ys:List D}(h:xs.length+ys.length<=1000):Z8 (.lst xs) (.lst ys)=.ok (.lst (xs++ys)):=by
 show(if few (xs++ys) then M.ok (D.lst (xs++ys)) else .bad)=_
 rw[Y8 (by rw[List.length_append];lia),if_pos rfl]
def Ck {g l:Int}(hg:0<=g)(hl:0<l):Int.gcd l (g%l)=Int.gcd g l:=by
 obtain⟨g',rfl⟩:=Int.eq_ofNat_of_zero_le hg
 obtain⟨l',rfl⟩:=Int.eq_ofNat_of_zero_le (Int.le_of_lt hl)
 rw[<-Int.natCast_emod]
 simp only[Int.gcd,Int.natAbs_natCast]
 rw[Nat.gcd_comm l',<-Nat.gcd_rec,Nat.gcd_comm]
def Ot {g:Int}(hg:0<=g):((Int.gcd g 0:Nat):Int)=g:=by
 rw[Int.gcd_zero_right];lia
theorem Fu (x y:Option S):∀(n:Nat) (g l:Int) (r:Option S),0<=g->0<=l->l.toNat<n ->
  ∃r',Yv (DL.tB (Zl W0 (Zd 3) ↑0)) (Zx (Z5 4 (Zl Qa (Zd 2) (Zd 3))) (Zx (Z5 2 (Zd 3)) (Z5 3 (Zd 4)))) n [x,y,some (.im (.int g)),some (.im (.int l)),r] =
   .ok (.nx [x,y,some (.im (.int (Int.gcd g l:Nat))),some (.im (.int 0)),r'])
 |0,_,_,_,_,_,h=>by lia
 |n+1,g,l,r,hg,hl,h=>by
  by_cases hz:l=0
  ·subst hz
   refine⟨r,?_⟩
   simp[Yv,DL.tB,Zl,Zd,eC,W0,D.dep,D.eq,asB,Ot hg]
   lia
  ·have hp:0<l:=by lia
   have hm0:0<=g%l:=Int.emod_nonneg g (by lia)
   have hm1:g%l<l:=Int.emod_lt_of_pos g hp
   obtain⟨r',e⟩:=Fu x y n l (g%l) (some (.im (.int (g%l)))) hl hm0 (by lia)
   refine⟨r',?_⟩
   rw[Ck hg hp] at e
   rw[<-e]
   simp[Yv,DL.tB,Zl,Zd,eC,W0,D.dep,D.eq,asB,Zx,Z5,gM hp,hz]
def ab (a:Int):(if a<0 then -a else a)=(a.natAbs:Int):=by split<;>lia
def S0 (a:Int):Wy [.int a]=.ok (.int (a.natAbs:Int)):=by
 show M.ok (D.int (if a<0 then -a else a))=_
 rw[ab]
def Zmg (a b:Int):X1 [.int a,.int b]=.ok (.im (.int (Int.gcd a b:Nat))):=by
 obtain⟨r',e⟩:=Fu (some (.im (.int a))) (some (.im (.int b))) (b.natAbs+1) a.natAbs b.natAbs none (by lia) (by lia) (by lia)
 have e2:=Lb (c:=DL.tB (Zl W0 (Zd 3) ↑0)) (f:=Zx (Z5 4 (Zl Qa (Zd 2) (Zd 3))) (Zx (Z5 2 (Zd 3)) (Z5 3 (Zd 4)))) (n:=b.natAbs+1) (sd:=[some (.im (.int a)),some (.im (.int b)),some (.im (.int a.natAbs)),some (.im (.int b.natAbs)),none]) (by rw[e];simp)
 rw[e] at e2
 refine(Zf9 _ _ _ _).trans (Z6 (go (Z1 (Xd (a1 rfl) (S0 a))) (go (Z1 (Xd (a1 rfl) (S0 b))) (go e2 (Z4 ?_)))))
 show M.ok (D.int ((Int.gcd (a.natAbs:Int) (b.natAbs:Int):Nat):Int))=_
 simp[Int.gcd]
def Zcd {f:Zi->M D}{i j:Nat}{sd:Zi}{a b:D}(h:f sd=.ok (.tup [a,b])):Ps f (K0 2 (Q0 (Xf i) (Q0 (Xf j) Ve))) sd=.ok (.nx ((sd.set i (some (.im a))).set j (some (.im b)))):=by
 unfold Ps
 rw[h]
 rfl
def nD (p q:Int):D:=.tup [.int p,.int q]
def K9 (t b:Int):D:=nD (t/(Int.gcd t b:Nat)) (b/(Int.gcd t b:Nat))
def Bo {t b:Int}(hb:b≠0\/t≠0):(0:Int)<(Int.gcd t b:Nat):=by
 have:0<Int.gcd t b:=Nat.pos_of_ne_zero fun z=>by
  have:=Int.gcd_eq_zero_iff.mp z
  lia
 lia
def Y1 {fa fb:Zi->M D}{sd:Zi}{ds:List D}{i:Int}{d:D}(h:fa sd=.ok (.lst ds))(h2:fb sd=.ok (.int i))(e:Rm ds i=some d):Zl Yu fa fb sd=.ok d:=by
 refine Zk h h2 ?_
 show(match Rm ds i with|some d=>M.ok d|none=>.bad)=_
 rw[e]
def Z0 {fa fb:Zi->M D}{sd:Zi}{ds:List D}{i:Int}{d:D}(h:fa sd=.ok (.tup ds))(h2:fb sd=.ok (.int i))(e:Rm ds i=some d):Zl Yu fa fb sd=.ok d:=by
 refine Zk h h2 ?_
 show(match Rm ds i with|some d=>M.ok d|none=>.bad)=_
 rw[e]
theorem S1 {α:Type}:∀l:List α,Jp (l.map fun _=>D.bl true)=some (l.map fun _=>true)
 |[]=>rfl
 |a::l=>by
  rw[List.map_cons,List.map_cons]
  simp only[Jp,S1 l]
  rfl
def Zce {α:Type}(l:List α):Ix [.lst (l.map fun _=>.bl true)]=.ok (.bl true):=by
 simp only[Ix,S1]
 congr 2
 rw[List.all_eq_true]
 intro b hb
 obtain⟨_,_,rfl⟩:=List.mem_map.mp hb
 rfl
def Ee {f:Zi->M (List D)}{sd:Zi}{ds:List D}(h:f sd=.ok ds):Pu f sd=.ok (.lst ds):=by
 unfold Pu;rw[h];rfl
def Nf {fi:Zi->M (List D)}{n0:Nat}{caps:List Nat}{gt:D->Zi->M Zi}{fe:Zi->M D}{sd:Zi}{ds:List D}{r:M (List D)}(h:fi sd=.ok ds)(hf:ds.length<=1000)(hr:W4 gt fe (U0 n0 caps sd) ds=r):V2 fi n0 caps gt fe sd=r:=by
 unfold V2
 rw[h,M.bind_ok,Y8 (by lia),if_pos rfl,hr]
def Ze8 {i:Nat}{f:Zi->M Bool}{sd:Zi}{b:Bool}(h:f (frz i sd)=.ok b):R4 i f sd=.ok b:=by
 unfold R4
 rw[h]
def Vo {i:Nat}{f:Zi->M O}{sd:Zi}{r:M O}(h:f (frz i sd)=r):Rz i f sd=r:=h
def Pa {ds:List D}:V0 [.lst ds]=.ok (.int (ds.length:Int)):=rfl
def m4 (a b c d:Int):a*b*(c*d)=a*c*(b*d):=by rw[Int.mul_assoc,Int.mul_assoc,Int.mul_left_comm b]
def Xv {t b:Int}(hb:0<b):∃p q,K9 t b=nD p q/\0<q/\p*b=t*q/\Int.gcd p q=1/\p.natAbs<=t.natAbs/\q<=b:=by
 obtain⟨u,eu⟩:((Int.gcd t b:Nat):Int) ∣ t:=Int.gcd_dvd_left t b
 obtain⟨v,ev⟩:((Int.gcd t b:Nat):Int) ∣ b:=Int.gcd_dvd_right t b
 have gp:=Bo (t:=t) (b:=b) (by lia)
 have hg:Int.gcd u v=1:=by
  have h1:Int.gcd ((Int.gcd t b:Nat)*u) ((Int.gcd t b:Nat)*v)=Int.gcd t b:=by rw[<-eu,<-ev]
  rw[Int.gcd_mul_left,Int.natAbs_natCast] at h1
  have h0:0<Int.gcd t b:=by lia
  exact Nat.eq_of_mul_eq_mul_left h0 (by rw[h1,Nat.mul_one])
 refine⟨t/(Int.gcd t b:Nat),b/(Int.gcd t b:Nat),rfl,?_⟩
 generalize ((Int.gcd t b:Nat):Int)=g at eu ev gp ⊢
 rw[eu,ev,Int.mul_ediv_cancel_left _ (by lia),Int.mul_ediv_cancel_left _ (by lia)]
 have v1:0<v:=by
  rcases Int.lt_or_le 0 v with h|h
  ·exact h
  ·have:=Int.mul_nonpos_of_nonneg_of_nonpos (Int.le_of_lt gp) h;lia
 refine⟨v1,by rw[Int.mul_left_comm,Int.mul_assoc],hg,?_,?_⟩
 ·rw[Int.natAbs_mul]
  exact Nat.le_mul_of_pos_left _ (by lia)
 ·have:=Int.mul_le_mul_of_nonneg_right (show(1:Int)<=g by lia) (Int.le_of_lt v1)
  lia
def Ou {p q p' q':Int}(hq:0<q)(hq':0<q')(c:Int.gcd p q=1)(c':Int.gcd p' q'=1)(e:p*q'=p'*q):p=p'/\q=q':=by
 have half:∀{p q p' q':Int},Int.gcd p q=1->p*q'=p'*q->q ∣ q':=fun {p q p' q'} c e=>by
  have:q ∣ p*q':=by rw[e];exact Int.dvd_mul_left _ _
  have c2:Int.gcd q p=1:=by rw[Int.gcd_comm];exact c
  have h1:q.natAbs ∣ p.natAbs*q'.natAbs:=by rw[<-Int.natAbs_mul];exact Int.natAbs_dvd_natAbs.mpr this
  have h2:q.natAbs ∣ q'.natAbs:=Nat.Coprime.dvd_of_dvd_mul_left (show Nat.Coprime q.natAbs p.natAbs from c2) h1
  exact Int.natAbs_dvd_natAbs.mp h2
 have d1:=half c e
 have d2:=half c' e.symm
 have eq:q=q':=by
  have h1:=Int.le_of_dvd hq' d1
  have h2:=Int.le_of_dvd hq d2
  lia
 subst eq
 exact⟨Int.eq_of_mul_eq_mul_right (by lia) e,rfl⟩
def V8 {t b t' b':Int}(hb:0<b)(hb':0<b')(e:t*b'=t'*b):K9 t b=K9 t' b':=by
 obtain⟨p,q,e1,q1,r1,c1,_⟩:=Xv (t:=t) hb
 obtain⟨p',q',e2,q2,r2,c2,_⟩:=Xv (t:=t') hb'
 have:p=p'/\q=q':=by
  refine Ou q1 q2 c1 c2 ?_
  have h:(p*q')*(b*b')=(p'*q)*(b*b'):=by
   have a1:(p*q')*(b*b')=(p*b)*(q'*b'):=by rw[m4]
   have a2:(p'*q)*(b*b')=(p'*b')*(q*b):=by rw[Int.mul_comm b b',m4]
   have a3:(t*q)*(q'*b')=(t*b')*(q*q'):=by rw[Int.mul_comm q' b',m4]
   have a4:(t'*q')*(q*b)=(t'*b)*(q*q'):=by rw[Int.mul_comm q b,m4,Int.mul_comm q' q]
   rw[a1,a2,r1,r2,a3,a4,e]
  exact Int.eq_of_mul_eq_mul_right (Int.mul_ne_zero (by lia) (by lia)) h
 rw[e1,e2,this.1,this.2]
structure Fr (k:Nat) (p q:Int):Prop where
 pos:0<q
 top:p.natAbs<=10 ^ k
 bot:q.natAbs<=10 ^ k
def Fr.mono {j k:Nat}{p q:Int}(h:Fr j p q)(hk:j<=k):Fr k p q:=
 have:=Nat.pow_le_pow_right (show 0<10 by decide) hk
 ⟨h.pos,by have:=h.top;lia,by have:=h.bot;lia⟩
def Bp {k:Nat}{t b:Int}(h:Fr k t b):∃p q,K9 t b=nD p q/\Fr k p q/\p*b=t*q/\Int.gcd p q=1:=by
 obtain⟨p,q,e,q1,r,c,h1,h2⟩:=Xv (t:=t) h.pos
 have:=h.top
 have:=h.bot
 exact⟨p,q,e,⟨q1,by lia,by lia⟩,r,c⟩
def Zcf {k:Nat}{t b:Int}(h:t.natAbs<=10 ^ k)(h2:b.natAbs<=10 ^ k):(((Int.gcd t b:Nat):Int)).natAbs<=10 ^ k:=by
 rw[Int.natAbs_natCast]
 by_cases hz:b=0
 ·subst hz;simpa using h
 ·have h1:((Int.gcd t b:Nat):Int) ∣ b:=Int.gcd_dvd_right t b
  have h2:=Nat.le_of_dvd (by lia) (Int.natAbs_dvd_natAbs.mpr h1)
  rw[Int.natAbs_natCast] at h2
  lia
def S2 {k:Nat}{t b:Int}(h:Fr k t b)(hk:k<=900):V4 [.int t,.int b]=.ok (.im (K9 t b)):=by
 have gp:=Bo (t:=t) (b:=b) (by have:=h.pos;lia)
 have gs:sm ((Int.gcd t b:Nat):Int)=true:=Yi (Zcf h.top h.bot) hk
 exact(Zf9 _ _ _ _).trans (Z6 (go (Z1 (Zt (aC rfl (a1 rfl)) (Zmg t b) rfl)) (Z4 (Kc (Zk rfl rfl (Ci gp gs)) (Zk rfl rfl (Ci gp gs))))))
def Vx {j k:Nat}(h:j<=k):(10:Nat) ^ j<=10 ^ k:=Nat.pow_le_pow_right (by decide) h
def Rb {k:Nat}{a b c d:Int}(h1:Fr k a b)(h2:Fr k c d)(hk:k<=400):Kq [nD a b,nD c d]=.ok (.im (.bl (decide (a*d<c*b)))):=by
 have sa:=Yi h1.top (by lia)
 have sb:=Yi h1.bot (by lia)
 have sc:=Yi h2.top (by lia)
 have sd:=Yi h2.bot (by lia)
 exact(Zf9 _ _ _ _).trans (Z6 (Z4 (Zk (Zk (Z0 rfl rfl (Yt _ _)) (Z0 rfl rfl (Xi _ _ _)) (gT sa sd)) (Zk (Z0 rfl rfl (Yt _ _)) (Z0 rfl rfl (Xi _ _ _)) (gT sc sb)) rfl)))
theorem Fv (x y:Option S):∀(n:Nat) (hi lo:Int),0<=hi->0<=lo->lo.toNat<n ->
  Yv (DL.tB (Zl Gh (Zd 3) ↑0)) (Mo 2 3 (Zb (Zd 3) (Zb (Zl Qa (Zd 2) (Zd 3)) Zh))) n [x,y,some (.im (.int hi)),some (.im (.int lo))] =
   .ok (.nx [x,y,some (.im (.int (Int.gcd hi lo:Nat))),some (.im (.int 0))])
 |0,_,_,_,_,h=>by lia
 |n+1,hi,lo,hg,hl,h=>by
  by_cases hz:lo=0
  ·subst hz
   simp[Yv,DL.tB,Zl,Zd,eC,Gh,Eu,asB]
   lia
  ·have hp:0<lo:=by lia
   have hm0:0<=hi%lo:=Int.emod_nonneg hi (by lia)
   have hm1:hi%lo<lo:=Int.emod_lt_of_pos hi hp
   have e:=Fv x y n lo (hi%lo) hl hm0 (by lia)
   rw[Ck hg hp] at e
   rw[<-e]
   simp[Yv,DL.tB,Zl,Zd,eC,Gh,Eu,asB,Mo,Zb,Zh,gM hp,hp]
def Zim {i j:Nat}{fs:Zi->M (List D)}{sd:Zi}{a b:D}(h:fs sd=.ok [a,b]):Mo i j fs sd=.ok (.nx ((sd.set i (some (.im a))).set j (some (.im b)))):=by
 unfold Mo
 rw[h]
 rfl
def Zcg (x y:Option S){hi lo:Int}(h1:0<=hi)(h2:0<=lo):W3 (DL.tB (Zl Gh (Zd 3) ↑0)) (Mo 2 3 (Zb (Zd 3) (Zb (Zl Qa (Zd 2) (Zd 3)) Zh))) [x,y,some (.im (.int hi)),some (.im (.int lo))]=.ok (.nx [x,y,some (.im (.int (Int.gcd hi lo:Nat))),some (.im (.int 0))]):=by
 have e:=Fv x y (lo.toNat+1) hi lo h1 h2 (by lia)
 have e2:=Lb (c:=DL.tB (Zl Gh (Zd 3) ↑0)) (f:=Mo 2 3 (Zb (Zd 3) (Zb (Zl Qa (Zd 2) (Zd 3)) Zh))) (n:=lo.toNat+1) (sd:=[x,y,some (.im (.int hi)),some (.im (.int lo))]) (by rw[e];simp)
 exact e2.trans e
def Lx {k:Nat}{t b:Int}(h:Fr k t b)(hk:k<=900):Qf [.int t,.int b]=.ok (.im (K9 t b)):=by
 have gp:=Bo (t:=t) (b:=b) (by have:=h.pos;lia)
 have gs:sm ((Int.gcd t b:Nat):Int)=true:=Yi (Zcf h.top h.bot) hk
 have eg:((Int.gcd (t.natAbs:Int) b:Nat):Int)=(Int.gcd t b:Nat):=by simp[Int.gcd]
 have w:=Zcg (some (.im (.int t))) (some (.im (.int b))) (hi:=(t.natAbs:Int)) (lo:=b) (by lia) (by have:=h.pos;lia)
 rw[eg] at w
 exact(Zf9 _ _ _ _).trans (Z6 (go (Zim (aC (Xd (a1 rfl) (S0 t)) (a1 rfl))) (go w (Z4 (Kc (Zk rfl rfl (Ci gp gs)) (Zk rfl rfl (Ci gp gs)))))))
abbrev Io (d:D):Option S:=some (.im d)
abbrev Jo (i:Int):Option S:=some (.im (.int i))
section
variable {k:Nat}{a b c d:Int}
def S3 {p q p' q':Int}(hb:0<b)(hd:0<d)(hq:0<q)(hq':0<q')(m1:p*b=a*q)(m2:p'*d=c*q'):p*q'<p'*q↔a*d<c*b:=by
 have e1:p*q'*(b*d)=a*d*(q*q'):=by grind
 have e2:p'*q*(b*d)=c*b*(q*q'):=by grind
 have h1:=Int.mul_pos hb hd
 have h2:=Int.mul_pos hq hq'
 constructor
 ·intro h
  have:=Int.mul_lt_mul_of_pos_right h h1
  rw[e1,e2] at this
  exact Int.lt_of_mul_lt_mul_right this (Int.le_of_lt h2)
 ·intro h
  have:=Int.mul_lt_mul_of_pos_right h h2
  rw[<-e1,<-e2] at this
  exact Int.lt_of_mul_lt_mul_right this (Int.le_of_lt h1)
end
def Ze9 {t b t' b':Int}(hb:0<b)(hb':0<b'):K9 t b=K9 t' b'↔t*b'=t'*b:=by
 constructor
 ·intro h
  obtain⟨p,q,e1,f1,m1,_⟩:=Xv (t:=t) hb
  obtain⟨p',q',e2,f2,m2,_⟩:=Xv (t:=t') hb'
  rw[e1,e2] at h
  unfold nD at h
  injection h with h
  injection h with h1 h
  injection h with h2 _
  injection h1 with h1
  injection h2 with h2
  subst h1
  subst h2
  have:t*b'*q=t'*b*q:=by grind
  exact Int.eq_of_mul_eq_mul_right (by lia) this
 ·exact V8 hb hb'
def S4 {p q:Int}(hq:0<q)(g:Int.gcd p q=1):K9 p q=nD p q:=by
 unfold K9
 rw[g]
 simp
def Znf (m:Nat)(f:Zi->M O)(a0:S):Fh 1 m f [a0]=Nr (f ([some a0]++List.replicate m none)):=rfl
def Zlh (m:Nat)(f:Zi->M O)(a0 a1:S):Fh 2 m f [a0,a1]=Nr (f ([some a0,some a1]++List.replicate m none)):=rfl
def Zks (m:Nat)(f:Zi->M O)(a0 a1 a2:S):Fh 3 m f [a0,a1,a2]=Nr (f ([some a0,some a1,some a2]++List.replicate m none)):=rfl
def Zng (m:Nat)(f:Zi->M O)(a0 a1 a2 a3:S):Fh 4 m f [a0,a1,a2,a3]=Nr (f ([some a0,some a1,some a2,some a3]++List.replicate m none)):=rfl
def trk (b:D)(sq h due lap:Int):Q2:=[("begin", b),("square", .int sq),("heading", .int h),("due", .int due),("lap", .int lap)]
def Zin (b th:D)(sq h due lap now:Int)(ht:th.dep<=60):F_pass_line (trk b sq h due lap) [.int now,th]=some (if due=now then(if D.eq th (.str (Str.ofString "m"))=true then trk b sq (-h) (due+lap) lap else trk b (sq+h) h (due+lap) lap) else trk b sq h due lap):=by
 unfold F_pass_line Zdh
 rw[if_pos (by rfl)]
 have e1:gB (C9 Xg (U2 "due") (Km (Zd 1))) (none::([D.int now,th].map (fun d=>Io d)++List.replicate 0 none)) (trk b sq h due lap)=.ok (due==now):=by
  show(Xg (.int due) (.int now)).bind asB=_
  rw[Q5]
  rfl
 have e2:(DL.tB (Zl Xg (Zd 2) ↑"m") (none::([D.int now,th].map (fun d=>Io d)++List.replicate 0 none)))=.ok (D.eq th (.str (Str.ofString "m"))):=by
  show(Xg th (.str (Str.ofString "m"))).bind asB=_
  rw[Kg ht]
  rfl
 unfold Zdg
 rw[e1]
 by_cases hd:due=now
 ·rw[if_pos hd,show(due==now)=true by simp[hd]]
  dsimp only[]
  rw[e2]
  cases D.eq th (.str (Str.ofString "m")) with
  |true=>rfl
  |false=>rfl
 ·rw[if_neg hd,show(due==now)=false by simp[hd]]
  rfl
def Yn (sq h:Int):Int:=if 0<h then sq+1 else sq
def Zio (a:Addr)(b:D)(sq h due lap:Int):Qv [.ob a "Track" (trk b sq h due lap)]=.ok (.im (.int (Yn sq h))):=by
 unfold Yn
 refine(Znf _ _ _).trans (Z6 (Z4 ?_))
 by_cases hh:0<h
 ·rw[if_pos hh]
  exact Vn (Qg (Zk rfl rfl (show Gh (.int h) (.int 0)=.ok (.bl true) by show M.ok (D.bl (decide (h > 0)))=_;rw[decide_eq_true hh]))) rfl
 ·rw[if_neg hh]
  exact V6 (Qg (Zk rfl rfl (show Gh (.int h) (.int 0)=.ok (.bl false) by show M.ok (D.bl (decide (h > 0)))=_;rw[decide_eq_false hh]))) rfl
def Wn (i:Nat){sd:Zi}{a:Addr}{b:D}{sq h due lap:Int} (e:sd[i]?=some (some (.ob a "Track" (trk b sq h due lap)))):Xr i "Track" "line_ahead" Qv Zh sd=.ok (.int (Yn sq h)):=by
 unfold Xr
 rw[e]
 show(if _/\_ then _ else _)=_
 rw[if_pos ⟨rfl,rfl⟩]
 show Gw (Qv [.ob a "Track" (trk b sq h due lap)])=_
 rw[Zio]
 rfl
def Zch (a:Addr)(b:D)(sq due lap now:Int):Yj [.ob a "Track" (trk b sq 0 due lap),.im (.int now)]=.ok (.im b):=by
 refine(Zlh _ _ _ _).trans ?_
 exact Z6 (Ya (Ql (Qg (Zk rfl rfl (show Xg (.int 0) (.int 0)=.ok (.bl true) by rw[Q5];rfl))) (Z4 rfl)))
def Zfa {k:Nat}(a:Addr)(b:D){sq h due lap now:Int}(hh:h≠0)(hl:0<lap)(bl:lap.natAbs<=10 ^ k)(b1:(Yn sq h).natAbs<=10 ^ k)(b2:h.natAbs<=10 ^ k)(b3:(due-now).natAbs<=10 ^ k)(hk:k<=300):
  Yj [.ob a "Track" (trk b sq h due lap),.im (.int now)]=.ok (.im (K9 (Yn sq h*lap-h*(due-now)) lap)):=by
 have hf:Fr (k+k+1) (Yn sq h*lap-h*(due-now)) lap:=⟨hl,Nd (Q4 b1 bl) (Q4 b2 b3),Nat.le_trans bl (Vx (by lia))⟩
 refine(Zlh _ _ _ _).trans ?_
 refine Z6 (go (Z2 (Qg (Zk rfl rfl (show Xg (.int h) (.int 0)=.ok (.bl false) by rw[Q5];simp[hh])))) (Z4 (Zt (aC (d:=.int (Yn sq h*lap-h*(due-now))) ?_ (a1 (d:=.int lap) rfl)) (S2 hf (by lia)) rfl)))
 exact Zk (Zk (Wn 0 rfl) rfl (gT (Yi b1 (by lia)) (Yi bl (by lia)))) (Zk rfl (Zk rfl rfl rfl) (gT (Yi b2 (by lia)) (Yi b3 (by lia)))) rfl
def Ov {k:Nat}(a:Addr)(b:D){sq h due lap n d:Int}(hd:Fr k n d)(bl:lap.natAbs<=10 ^ k)(b1:(Yn sq h).natAbs<=10 ^ k)(b2:h.natAbs<=10 ^ k)(b3:due.natAbs<=10 ^ k)(hk:k<=100):
  Ku [.ob a "Track" (trk b sq h due lap),.im (nD n d)]=.ok (.im (K9 (due*d-h*(Yn sq h*d-n)*lap) d)):=by
 have s1:=Yi hd.top (by lia)
 have s2:=Yi hd.bot (by lia)
 have s3:=Yi bl (by lia)
 have s4:=Yi b1 (by lia)
 have s5:=Yi b2 (by lia)
 have s6:=Yi b3 (by lia)
 have h1:(Yn sq h*d-n).natAbs<=10 ^ (k+k+1):=Nd (Q4 b1 hd.bot) (Nat.le_trans hd.top (Vx (by lia)))
 have h2:(h*(Yn sq h*d-n)).natAbs<=10 ^ (k+(k+k+1)):=Q4 b2 h1
 have h3:(h*(Yn sq h*d-n)*lap).natAbs<=10 ^ (k+(k+k+1)+k):=Q4 h2 bl
 have hf:Fr (k+(k+k+1)+k+1) (due*d-h*(Yn sq h*d-n)*lap) d:=⟨hd.pos,Nd (Nat.le_trans (Q4 b3 hd.bot) (Vx (by lia))) h3,Nat.le_trans hd.bot (Vx (by lia))⟩
 refine(Zlh _ _ _ _).trans ?_
 refine Z6 (go (Z1 (d:=.int (h*(Yn sq h*d-n))) (Zk rfl (Zk (Zk (Wn 0 rfl) (Z0 rfl rfl (Xi _ _ _)) (gT s4 s2)) (Z0 rfl rfl (Yt _ _)) rfl) (gT s5 (Yi h1 (by lia))))) (Z4 (Zt (aC (d:=.int (due*d-h*(Yn sq h*d-n)*lap)) ?_ (a1 (d:=.int d) (Z0 rfl rfl (Xi _ _ _)))) (S2 hf (by lia)) rfl)))
 exact Zk (Zk rfl (Z0 rfl rfl (Xi _ _ _)) (gT s6 s2)) (Zk rfl rfl (gT (Yi h2 (by lia)) s3)) rfl
structure Po4 where
 a:Int
 b:Int
 c:Int
 d:Int
def Po4.D (p:Po4):D:=.tup [nD p.a p.b,nD p.c p.d]
structure PoOk (k:Nat) (p:Po4):Prop where
 x:Fr k p.a p.b
 y:Fr k p.c p.d
structure PIn (z:Nat) (p q:Int):Prop where
 fr:Fr 4 p q
 p0:0<p
 p1:p<(z:Int)*q
 g:Int.gcd p q=1
 nw:∀k:Int,k*q≠p
 q3:q<=1000
def Zci {z:Nat}(z0:1<=z)(z1:z<=8){B:Int}(b0:3<=B)(b1:B<=1000)(x y:Int):∃p q,PIn z p q/\Wl [.int (z:Int),.int x,.int y,.int B]=.ok (.im (nD p q)):=by
 have m0:=Int.emod_nonneg x (show B-1≠0 by lia)
 have m1:=Int.emod_lt_of_pos x (show 0<B-1 by lia)
 obtain⟨bot,eb⟩:∃b,b=2+x%(B-1):=⟨_,rfl⟩
 have r0:=Int.emod_nonneg y (show bot-1≠0 by lia)
 have r1:=Int.emod_lt_of_pos y (show 0<bot-1 by lia)
 have s0:=Int.emod_nonneg (x/1000) (show(z:Int)≠0 by lia)
 have s1:=Int.emod_lt_of_pos (x/1000) (show 0<(z:Int) by lia)
 obtain⟨s,es⟩:∃s,s=x/1000%(z:Int):=⟨_,rfl⟩
 obtain⟨r,er⟩:∃r,r=y%(bot-1):=⟨_,rfl⟩
 rw[<-es] at s0 s1
 rw[<-er] at r0 r1
 have bb:2<=bot/\bot<=1000:=by lia
 have mb:=Zil (a:=s) (b:=bot) (A:=7) (B:=1000) s0 (by lia) (by lia) bb.2
 have p4:(10:Nat) ^ 4=10000:=rfl
 have hf:Fr 4 (s*bot+1+r) bot:=⟨by lia,by rw[p4];lia,by rw[p4];lia⟩
 obtain⟨p,q,el,hq,m,g⟩:=Bp hf
 have hb:0<bot:=by lia
 have nm:∀k:Int,k*bot≠s*bot+1+r:=fun k e=>by
  have:1+r-0=(k-s)*bot:=by rw[Int.sub_mul];lia
  have h1:1<=k-s\/k-s<=0:=by lia
  rcases h1 with h1|h1
  ·have:=Int.mul_le_mul_of_nonneg_right h1 (Int.le_of_lt hb);lia
  ·have:=Int.mul_le_mul_of_nonneg_right h1 (Int.le_of_lt hb);lia
 have q3:q<=1000:=by
  obtain⟨p',q',e',_,_,_,_,hle⟩:=Xv (t:=s*bot+1+r) hb
  rw[el] at e'
  unfold nD at e'
  injection e' with e'
  injection e' with _ e'
  injection e' with e' _
  injection e' with e'
  lia
 refine⟨p,q,⟨hq,?_,?_,g,fun k e=>?_,q3⟩,?_⟩
 ·have h1:0<(s*bot+1+r)*q:=Int.mul_pos (by lia) hq.pos
  rw[<-m] at h1
  exact Int.pos_of_mul_pos_left h1 hb
 ·have h2:s*bot+1+r<(z:Int)*bot:=by
   have:=Int.mul_le_mul_of_nonneg_right (show s+1<=(z:Int) by lia) (Int.le_of_lt hb)
   rw[Int.add_mul] at this
   lia
  have h3:=Int.mul_lt_mul_of_pos_right h2 hq.pos
  rw[<-m,Int.mul_right_comm] at h3
  exact Int.lt_of_mul_lt_mul_right h3 (Int.le_of_lt hb)
 ·refine nm k (Int.eq_of_mul_eq_mul_right (a:=q) (by have:=hq.pos;lia) ?_)
  rw[<-m,<-e,Int.mul_right_comm]
 ·have e3:Zl Z8 (Zl Z8 (Zl Qb (Zl Qa (Zl Yb (Zd 1) ↑1000) (Zd 0)) (Zd 4)) ↑1) (Zl Qa (Zd 2) (Zl DL.Jv (Zd 4) ↑1)) [Jo (z:Int),Jo x,Jo y,Jo B,Jo bot]=.ok (.int (s*bot+1+r)):=by
   rw[es,er]
   refine Zk (Zk (Zk (Zk (Zk rfl rfl (Ci (by decide) (B2 (by decide) (by decide)))) rfl (gM (by lia))) rfl (gT (B2 (by lia) (by lia)) (B2 (by lia) (by lia)))) rfl rfl) (Zk rfl (Zk rfl rfl rfl) (gM (by lia))) rfl
  refine(Zdj _ _ _ _ _ _).trans (Z6 (go (Z1 (d:=.int bot) (by rw[eb];exact Zk rfl (Zk rfl (Zk rfl rfl rfl) (gM (by lia))) rfl)) (Z4 (Zt (aC e3 (a1 rfl)) (Lx hf (by decide)) (by rw[el];rfl)))))
structure PtOk (W H:Nat) (p:Po4):Prop where
 x:PIn W p.a p.b
 y:PIn H p.c p.d
def PtOk.ok {W H:Nat}{p:Po4}(h:PtOk W H p):PoOk 4 p:=⟨h.x.fr,h.y.fr⟩
def Bq {W H:Nat}(w0:1<=W)(w1:W<=8)(h0:1<=H)(h1:H<=8){B:Int}(b0:3<=B)(b1:B<=1000)(c:Int):∃p:Po4,PtOk W H p/\X2 [.int c,.int (W:Int),.int (H:Int),.int B]=.ok (.im p.D):=by
 obtain⟨es,hes,_,en⟩:=Kw c 4 (by lia)
 obtain⟨x0,x1,x2,x3,rfl⟩:∃x0 x1 x2 x3,es=[x0,x1,x2,x3]:=by
  match es,hes with
  |[x0,x1,x2,x3],_=>exact⟨x0,x1,x2,x3,rfl⟩
 obtain⟨a,b,na,fa⟩:=Zci w0 w1 b0 b1 x0 x1
 obtain⟨p,d,nc,fc⟩:=Zci h0 h1 b0 b1 x2 x3
 refine⟨⟨a,b,p,d⟩,⟨na,nc⟩,(Zdj _ _ _ _ _ _).trans (Z6 (go (Z1 (Zt (aC rfl (a1 rfl)) en rfl)) (Z4 (Kc (Zt (aC rfl (aC (Y1 (ds:=[x0,x1,x2,x3].map D.int) rfl rfl (Yt _ _)) (aC (Y1 (ds:=[x0,x1,x2,x3].map D.int) rfl rfl (Xi _ _ _)) (a1 rfl)))) fa rfl) (Zt (aC rfl (aC (Y1 (ds:=[x0,x1,x2,x3].map D.int) rfl rfl (Os _ _ _ _)) (aC (Y1 (ds:=[x0,x1,x2,x3].map D.int) rfl rfl (Zmf _ _ _ _ _)) (a1 rfl)))) fc rfl)))))⟩
def Zcj (p q:Po4):D.eq p.D q.D=true↔p=q:=by
 cases p;cases q
 simp[Po4.D,nD,D.eq,D.eqs]
 constructor
 ·rintro⟨⟨a,b⟩,c,d⟩;exact⟨a,b,c,d⟩
 ·rintro⟨a,b,c,d⟩;exact⟨⟨a,b⟩,c,d⟩
def Zip (p:Po4):p.D.dep<=60:=by simp[Po4.D,nD,D.dep,D.deps]
def Zck (p:Po4)(ps:List Po4):C8 p.D (ps.map Po4.D)=true↔p∈ps:=by
 unfold C8
 rw[List.any_map,List.any_eq_true]
 constructor
 ·rintro⟨q,hq,e⟩
  rw[<-(Zcj q p).mp e];exact hq
 ·intro h
  exact⟨p,h,(Zcj p p).mpr rfl⟩
noncomputable def Zmh:Zi->M O:=(Zx (Z5 6 (Zv X2 (Zb (Zd 5) (Zb (Zd 1) (Zb (Zd 2) (Zb (Zd 3) Zh))))))
   (Xw (R4 4 (DL.tB (Zl R1 (Zd 6) (Zd 4)))) (Vt 4 (Zd 6)) Q3))
def Zfb (v0:Option S){W H:Nat}(w0:1<=W)(w1:W<=8)(h0:1<=H)(h1:H<=8){B:Int}(b0:3<=B)(b1:B<=1000)(c:Int)(ps:List Po4)(hp:∀p∈ps,PtOk W H p)(nd:ps.Nodup)(hl:ps.length<=900)(v6:Option S):
  ∃(ps':List Po4) (w6:Option S),(∀p∈ps',PtOk W H p)/\ps'.Nodup/\ps'.length<=ps.length+1/\0<ps'.length/\Zmh [v0,Jo (W:Int),Jo (H:Int),Jo B,some (.ow (ps.map Po4.D)),Jo c,v6] =
   .ok (.nx [v0,Jo (W:Int),Jo (H:Int),Jo B,some (.ow (ps'.map Po4.D)),Jo c,w6]):=by
 obtain⟨p,ok,e⟩:=Bq w0 w1 h0 h1 b0 b1 c
 have dp:D.deps (ps.map Po4.D)<=60:=Uu fun d hd=>by
  obtain⟨q,_,rfl⟩:=List.mem_map.mp hd
  exact Zip q
 have st:R4 4 (DL.tB (Zl R1 (Zd 6) (Zd 4))) [v0,Jo (W:Int),Jo (H:Int),Jo B,some (.ow (ps.map Po4.D)),Jo c,Io p.D]=.ok (!C8 p.D (ps.map Po4.D)):=Ze8 (Qg (Zk (x:=p.D) (y:=.lst (ps.map Po4.D)) rfl rfl (if_pos dp)))
 by_cases hm:p∈ps
 ·refine⟨ps,_,hp,nd,by lia,List.length_pos_of_mem hm,go (Z1 (Zt (aC rfl (aC rfl (aC rfl (a1 rfl)))) e rfl)) (Z2 (st.trans (by rw[(Zck p ps).mpr hm];rfl)))⟩
 ·refine⟨ps++[p],Io p.D,fun q hq=>?_,?_,by rw[List.length_append];exact Nat.le_refl _,by rw[List.length_append,List.length_singleton];lia,go (Z1 (Zt (aC rfl (aC rfl (aC rfl (a1 rfl)))) e rfl)) (Ql (st.trans (by rw[show C8 p.D (ps.map Po4.D)=false from Bool.eq_false_iff.mpr fun z=>hm ((Zck p ps).mp z)];rfl)) ((N9 (ds:=ps.map Po4.D) (d:=p.D) rfl rfl (by rw[List.length_map];lia)).trans ?_))⟩
  ·rcases List.mem_append.mp hq with z|z
   ·exact hp q z
   ·rw[List.mem_singleton.mp z];exact ok
  ·refine List.nodup_append.mpr ⟨nd,by simp,fun a ha b hb=>?_⟩
   rw[List.mem_singleton.mp hb]
   rintro rfl
   exact hm ha
  ·rw[List.map_append];rfl
theorem Fw (v0:Option S){W H:Nat}(w0:1<=W)(w1:W<=8)(h0:1<=H)(h1:H<=8){B:Int}(b0:3<=B)(b1:B<=1000):∀(cs:List Int) (ps:List Po4) (v5 v6:Option S),(∀p∈ps,PtOk W H p)->ps.Nodup->ps.length+cs.length<=900 ->
  ∃(ps':List Po4) (w5 w6:Option S),(∀p∈ps',PtOk W H p)/\ps'.Nodup/\ps'.length<=ps.length+cs.length/\(0<ps.length\/cs≠[]->0<ps'.length)/\Xa (Xf 5) Zmh (cs.map D.int) [v0,Jo (W:Int),Jo (H:Int),Jo B,some (.ow (ps.map Po4.D)),v5,v6] =
   .ok (.nx [v0,Jo (W:Int),Jo (H:Int),Jo B,some (.ow (ps'.map Po4.D)),w5,w6])
 |[],ps,v5,v6,hp,nd,_=>⟨ps,v5,v6,hp,nd,by simp,fun h=>h.elim id fun z=>absurd rfl z,rfl⟩
 |c::cs,ps,v5,v6,hp,nd,hl=>by
  rw[List.length_cons] at hl
  obtain⟨p1,a6,o1,n1,l1,z1,e1⟩:=Zfb v0 w0 w1 h0 h1 b0 b1 c ps hp nd (by lia) v6
  obtain⟨p2,w5,w6,o2,n2,l2,z2,e2⟩:=Fw v0 w0 w1 h0 h1 b0 b1 cs p1 (Jo c) a6 o1 n1 (by lia)
  refine⟨p2,w5,w6,o2,n2,by rw[List.length_cons];lia,fun _=>z2 (.inl z1),?_⟩
  rw[List.map_cons]
  exact(Ye (sd1:=[v0,Jo (W:Int),Jo (H:Int),Jo B,some (.ow (ps.map Po4.D)),Jo c,v6]) rfl e1).trans e2
def cz (ns:List Int)(k:Nat):Int:=(ns[k]?).getD 0
def Gd (ns:List Int)(k:Nat)(hl:ns.length<=63):Yf [.lst (ns.map D.int),.int (k:Int)]=.ok (.im (.int (cz ns k))):=by
 have e1:(k:Int)+1=((k+1:Nat):Int):=by lia
 have hcut:Gn (ns.map D.int) (some (k:Int)) (some ((k:Int)+1))++[D.int 0]=D.int (cz ns k)::(if k<ns.length then [D.int 0] else []):=by
  unfold Gn
  rw[e1,HT.sIx_nat,HT.sIx_nat,List.length_map]
  by_cases hk:k<ns.length
  ·rw[Nat.min_eq_left (by lia),Nat.min_eq_left (by lia),if_pos hk,<-List.map_drop,<-List.map_take,List.drop_eq_getElem_cons hk]
   have:k+1-k=1:=by lia
   rw[this,List.take_succ_cons,List.take_zero]
   simp[cz,hk]
  ·rw[Nat.min_eq_right (by lia),Nat.min_eq_right (by lia),if_neg hk,Nat.sub_self,List.take_zero]
   have:cz ns k=0:=by unfold cz;rw[List.getElem?_eq_none (by lia)];rfl
   rw[this];rfl
 have sl:∀r:List (Option S),Do (Zd 0) (Xq (Zd 1)) (Xq (Zl Z8 (Zd 1) ↑1)) (Io (.lst (ns.map D.int))::Jo (k:Int)::r)=.ok (.lst (Gn (ns.map D.int) (some (k:Int)) (some ((k:Int)+1)))):=fun r=>rfl
 have lc:(Gn (ns.map D.int) (some (k:Int)) (some ((k:Int)+1))).length<=63:=by
  unfold Gn
  rw[List.length_take,List.length_drop,List.length_map]
  lia
 have pl:=Ed (xs:=Gn (ns.map D.int) (some (k:Int)) (some ((k:Int)+1))) (ys:=[D.int 0]) (by rw[List.length_singleton];lia)
 rw[hcut] at pl
 generalize ns.map D.int=N at sl pl
 refine(Zf9 _ _ _ _).trans (Z6 (Z4 (Zk (Zk (sl _) (Kd (a1 rfl) rfl) pl) rfl ?_)))
 simp[Yu,Yt]
structure Tk where
 n:Int
 m:Int
 sq:Int
 h:Int
 due:Int
 lap:Int
def Tk.r (t:Tk):Q2:=trk (nD t.n t.m) t.sq t.h t.due t.lap
def Tk.line (t:Tk):Int:=Yn t.sq t.h
structure TB (k:Nat) (t:Tk):Prop where
 fr:Fr k t.n t.m
 li:t.line.natAbs<=10 ^ k
 h:t.h.natAbs<=10 ^ k
 due:t.due.natAbs<=10 ^ k
 lap:t.lap.natAbs<=10 ^ k
def Tk.tm (t:Tk)(n d:Int):Int:=t.due*d-t.h*(t.line*d-n)*t.lap
def Br (a b:Int):(nD a b).dep<=60:=by simp[nD,D.dep,D.deps]
def Bs (a b:Int):(K9 a b).dep<=60:=Br _ _
def Fx (a b c d:Int):D.eq (nD a b) (nD c d)=decide (a=c/\b=d):=by
 simp only[nD,D.eq,D.eqs]
 by_cases h1:a=c<;>by_cases h2:b=d<;>simp[h1,h2]
def Zcl {t b t' b':Int}(hb:0<b)(hb':0<b'):D.eq (K9 t b) (K9 t' b')=decide (t*b'=t'*b):=by
 have:=Ze9 (t:=t) (t':=t') hb hb'
 unfold K9 at this ⊢
 rw[Fx]
 refine decide_eq_decide.mpr ?_
 rw[<-this]
 unfold nD
 constructor
 ·rintro⟨h1,h2⟩;rw[h1,h2]
 ·intro h
  injection h with h
  injection h with h1 h
  injection h with h2 _
  injection h1 with h1
  injection h2 with h2
  exact⟨h1,h2⟩
noncomputable def Zgb:Zi->M O:=Xw (DL.tB (Zl W0 (Yd 4 "Track" "heading") ↑0)) (Vt 3 (Xr 4 "Track" "time_at" Ku (Zb (Zd 5) Zh)))
   (Xw (DL.tB (Zl W0 (Zd 5) (Yd 4 "Track" "begin"))) (Qr (eC .non)) Q3)
def Zgc {k:Nat}{a:Addr}{t:Tk}(o0 o1 o2:Option S)(ts:List D){n d:Int}(hb:TB k t)(hd:Fr k n d)(hk:k<=100)(hh:t.h≠0)(hl:ts.length<=10):
  Zgb [o0,o1,o2,some (.ow ts),some (.ob a "Track" t.r),Io (nD n d)]=.ok (.nx [o0,o1,o2,some (.ow (ts++[K9 (t.tm n d) d])),some (.ob a "Track" t.r),Io (nD n d)]):=by
 refine Ql (Qg (Zk rfl rfl (show W0 (.int t.h) (.int 0)=.ok (.bl true) by rw[V7 (by simp[D.dep])];simp[D.eq,hh]))) (N9 rfl ?_ (by lia))
 unfold Xr
 simp only[List.getElem?_cons_succ,List.getElem?_cons_zero]
 rw[if_pos ⟨trivial,rfl⟩]
 show Gw (Ku [.ob a "Track" (trk (nD t.n t.m) t.sq t.h t.due t.lap),.im (nD n d)])=_
 rw[Ov a (nD t.n t.m) hd hb.lap hb.li hb.h hb.due hk]
 rfl
def Cn {a:Addr}{t:Tk}(o0 o1 o2:Option S)(ts:List D){n d:Int}(hh:t.h=0)(he:n=t.n/\d=t.m):
  Zgb [o0,o1,o2,some (.ow ts),some (.ob a "Track" t.r),Io (nD n d)]=.ok (.nx [o0,o1,o2,some (.ow ts),some (.ob a "Track" t.r),Io (nD n d)]):=by
 refine Fs (Qg (Zk rfl rfl (show W0 (.int t.h) (.int 0)=.ok (.bl false) by rw[V7 (by simp[D.dep])];simp[D.eq,hh]))) (Z2 (Qg (Zk rfl rfl (show W0 (nD n d) (nD t.n t.m)=.ok (.bl false) by rw[V7 (Br _ _),Fx,decide_eq_true he];rfl))))
def Zcm {a:Addr}{t:Tk}(o0 o1 o2:Option S)(ts:List D){n d:Int}(hh:t.h=0)(he:¬(n=t.n/\d=t.m)):
  Zgb [o0,o1,o2,some (.ow ts),some (.ob a "Track" t.r),Io (nD n d)]=.ok (.rt (.im .non)):=by
 refine Fs (Qg (Zk rfl rfl (show W0 (.int t.h) (.int 0)=.ok (.bl false) by rw[V7 (by simp[D.dep])];simp[D.eq,hh]))) (Ql (Qg (Zk rfl rfl (show W0 (nD n d) (nD t.n t.m)=.ok (.bl true) by rw[V7 (Br _ _),Fx,decide_eq_false he];rfl))) (Z4 rfl))
inductive At (t u:Tk) (p:Po4):Int->Int->Prop
 |two:t.h≠0->u.h≠0->t.tm p.a p.b*p.d=u.tm p.c p.d*p.b->At t u p (t.tm p.a p.b) p.b
 |one:t.h≠0->u.h=0->p.c=u.n/\p.d=u.m->At t u p (t.tm p.a p.b) p.b
 |oth:t.h=0->p.a=t.n/\p.b=t.m->u.h≠0->At t u p (u.tm p.c p.d) p.d
def Co (a b:Int):D.eq (K9 a b) (K9 a b)=true:=by
 unfold K9
 rw[Fx,decide_eq_true ⟨rfl,rfl⟩]
def Zkt (x:D):Rm [x] (-1)=some x:=rfl
def Zgd (x y:D):Rm [x,y] (-1)=some y:=rfl
noncomputable def Zmu:Zi->M O:=Rz 3 (Qr (Nn (DL.tB (Zl Xg 3[0]! (Zl Yu (Zd 3) (E7 Wz ↑1)))) 3[0]! (eC .non)))
def Zku (o0 o1 o2 o4 o5:Option S)(a b:Int):Zmu [o0,o1,o2,some (.ow [K9 a b]),o4,o5]=.ok (.rt (.im (K9 a b))):=by
 refine Vo (Z4 (Vn (Qg (Zk (Y1 rfl rfl (Yt _ _)) (Y1 rfl rfl (Zkt _)) (by rw[Kg (Bs _ _),Co]))) (Y1 rfl rfl (Yt _ _))))
def Zmi (o0 o1 o2 o4 o5:Option S){a b c d:Int}(hb:0<b)(hd:0<d):Zmu [o0,o1,o2,some (.ow [K9 a b,K9 c d]),o4,o5]=.ok (.rt (.im (if a*d=c*b then K9 a b else .non))):=by
 by_cases h:a*d=c*b
 ·rw[if_pos h]
  exact Vo (Z4 (Vn (Qg (Zk (Y1 rfl rfl (Yt _ _)) (Y1 rfl rfl (Zgd _ _)) (by rw[Kg (Bs _ _),Zcl hb hd,decide_eq_true h]))) (Y1 rfl rfl (Yt _ _))))
 ·rw[if_neg h]
  exact Vo (Z4 (V6 (Qg (Zk (Y1 rfl rfl (Yt _ _)) (Y1 rfl rfl (Zgd _ _)) (by rw[Kg (Bs _ _),Zcl hb hd,decide_eq_false h]))) rfl))
def Zfc {it ip i1 i2:Nat}{f1 f2:Zi->M D}{f:Zi->M O}{sd s1 s2:Zi}{o1 o2:S}{d1 d2:D}(e1:sd[i1]?=some (some o1))(e2:sd[i2]?=some (some o2))(h1:W7 o1=true)(h2:W7 o2=true)(g1:f1 sd=.ok d1)(g2:f2 sd=.ok d2)(k1:f ((sd.set it (some o1)).set ip (Io d1))=.ok (.nx s1)){r:M O}(k2:f ((s1.set it (some o2)).set ip (Io d2))=r)(hr:(∃s2,r=.ok (.nx s2))\/∃s,r=.ok (.rt s)):Gy it ip i1 i2 f1 f2 f sd=r:=by
 unfold Gy
 rw[e1,e2]
 show(if(W7 o1&&W7 o2)=true then _ else _)=_
 rw[h1,h2,if_pos (show(true&&true)=true from rfl),g1]
 show(f2 sd).bind _=_
 rw[g2]
 show Vi it ip f [(o1,d1),(o2,d2)] sd=_
 unfold Vi
 rw[k1]
 show Vi it ip f [(o2,d2)] s1=_
 unfold Vi
 rw[k2]
 rcases hr with⟨s2,rfl⟩|⟨s,rfl⟩
 ·rfl
 ·rfl
def Zfd {it ip i1 i2:Nat}{f1 f2:Zi->M D}{f:Zi->M O}{sd:Zi}{o1 o2:S}{d1 d2:D}{s:S}(e1:sd[i1]?=some (some o1))(e2:sd[i2]?=some (some o2))(h1:W7 o1=true)(h2:W7 o2=true)(g1:f1 sd=.ok d1)(g2:f2 sd=.ok d2)(k1:f ((sd.set it (some o1)).set ip (Io d1))=.ok (.rt s)):Gy it ip i1 i2 f1 f2 f sd=.ok (.rt s):=by
 unfold Gy
 rw[e1,e2]
 show(if(W7 o1&&W7 o2)=true then _ else _)=_
 rw[h1,h2,if_pos (show(true&&true)=true from rfl),g1]
 show(f2 sd).bind _=_
 rw[g2]
 show Vi it ip f [(o1,d1),(o2,d2)] sd=_
 unfold Vi
 rw[k1]
 rfl
section
variable {k:Nat}{a1 a2:Addr}{t u:Tk}{p:Po4}
def Bt {s1:Zi}{r:M O} (k1:Zgb [some (.ob a1 "Track" t.r),some (.ob a2 "Track" u.r),Io p.D,some (.ow []),some (.ob a1 "Track" t.r),Io (nD p.a p.b)]=.ok (.nx s1)) (k2:Zgb ((s1.set 4 (some (.ob a2 "Track" u.r))).set 5 (Io (nD p.c p.d)))=r) (hr:(∃s2,r=.ok (.nx s2))\/∃s,r=.ok (.rt s)):
  Gy 4 5 0 1 2[0]! 2[1]! Zgb [some (.ob a1 "Track" t.r),some (.ob a2 "Track" u.r),Io p.D,some (.ow []),none,none]=r:=
 Zfc (s2:=[]) (sd:=[some (.ob a1 "Track" t.r),some (.ob a2 "Track" u.r),Io p.D,some (.ow []),none,none]) (o1:=.ob a1 "Track" t.r) (o2:=.ob a2 "Track" u.r) (d1:=nD p.a p.b) (d2:=nD p.c p.d) rfl rfl rfl rfl (Z0 rfl rfl (Yt _ _)) (Z0 rfl rfl (Xi _ _ _)) k1 k2 hr
def Zfe {s:S} (k1:Zgb [some (.ob a1 "Track" t.r),some (.ob a2 "Track" u.r),Io p.D,some (.ow []),some (.ob a1 "Track" t.r),Io (nD p.a p.b)]=.ok (.rt s)):
  Gy 4 5 0 1 2[0]! 2[1]! Zgb [some (.ob a1 "Track" t.r),some (.ob a2 "Track" u.r),Io p.D,some (.ow []),none,none]=.ok (.rt s):=
 Zfd (sd:=[some (.ob a1 "Track" t.r),some (.ob a2 "Track" u.r),Io p.D,some (.ow []),none,none]) (o1:=.ob a1 "Track" t.r) (o2:=.ob a2 "Track" u.r) (d1:=nD p.a p.b) (d2:=nD p.c p.d) rfl rfl rfl rfl (Z0 rfl rfl (Yt _ _)) (Z0 rfl rfl (Xi _ _ _)) k1
def Ly (ht:TB k t)(hu:TB k u)(hp:PoOk k p)(hk:k<=100)(hm:t.h≠0\/u.h≠0):∃d,F_time_to [.ob a1 "Track" t.r,.ob a2 "Track" u.r,.im p.D]=.ok (.im d)/\((d=.non/\∀x y,¬At t u p x y)\/∃x y,At t u p x y/\d=K9 x y):=by
 have tA:=@Zgc k a1 t (some (.ob a1 "Track" t.r)) (some (.ob a2 "Track" u.r)) (Io p.D) [] p.a p.b ht hp.x hk
 have tB:=@Zgc k a2 u (some (.ob a1 "Track" t.r)) (some (.ob a2 "Track" u.r)) (Io p.D)
 by_cases h1:t.h=0
 ·have h2:u.h≠0:=hm.resolve_left (fun z=>z h1)
  by_cases he:p.a=t.n/\p.b=t.m
  ·refine⟨K9 (u.tm p.c p.d) p.d,(Zks _ _ _ _ _).trans (Z6 (go (X3 3 _) (go (Bt (Cn _ _ _ [] h1 he) (tB [] hu hp.y hk h2 (by decide)) (.inl ⟨_,rfl⟩)) (Zku _ _ _ _ _ _ _)))),.inr ⟨_,_,.oth h1 he h2,rfl⟩⟩
  ·refine⟨.non,(Zks _ _ _ _ _).trans (Z6 (go (X3 3 _) (Ya (Zfe (Zcm _ _ _ [] h1 he))))),.inl ⟨rfl,fun x y h=>?_⟩⟩
   cases h with
   |two a b c=>exact a h1
   |one a b c=>exact a h1
   |oth a b c=>exact he b
 ·by_cases h2:u.h=0
  ·by_cases he:p.c=u.n/\p.d=u.m
   ·refine⟨K9 (t.tm p.a p.b) p.b,(Zks _ _ _ _ _).trans (Z6 (go (X3 3 _) (go (Bt (tA h1 (by decide)) (Cn _ _ _ _ h2 he) (.inl ⟨_,rfl⟩)) (Zku _ _ _ _ _ _ _)))),.inr ⟨_,_,.one h1 h2 he,rfl⟩⟩
   ·refine⟨.non,(Zks _ _ _ _ _).trans (Z6 (go (X3 3 _) (Ya (Bt (tA h1 (by decide)) (Zcm _ _ _ _ h2 he) (.inr ⟨_,rfl⟩))))),.inl ⟨rfl,fun x y h=>?_⟩⟩
    cases h with
    |two a b c=>exact b h2
    |one a b c=>exact he c
    |oth a b c=>exact h1 a
  ·refine⟨_,(Zks _ _ _ _ _).trans (Z6 (go (X3 3 _) (go (Bt (tA h1 (by decide)) (tB _ hu hp.y hk h2 (by simp)) (.inl ⟨_,rfl⟩)) (Zmi _ _ _ _ _ hp.x.pos hp.y.pos)))),?_⟩
   by_cases he:t.tm p.a p.b*p.d=u.tm p.c p.d*p.b
   ·rw[if_pos he]
    exact .inr ⟨_,_,.two h1 h2 he,rfl⟩
   ·rw[if_neg he]
    refine .inl ⟨rfl,fun x y h=>?_⟩
    cases h with
    |two a b c=>exact he c
    |one a b c=>exact h2 b
    |oth a b c=>exact h1 a
end
def tval (t u:Tk)(p:Po4):Option (Int×Int):=
 if t.h≠0 then(if u.h≠0 then(if t.tm p.a p.b*p.d=u.tm p.c p.d*p.b then some (t.tm p.a p.b,p.b) else none) else if p.c=u.n/\p.d=u.m then some (t.tm p.a p.b,p.b) else none)
 else if p.a=t.n/\p.b=t.m then some (u.tm p.c p.d,p.d) else none
def tD:Option (Int×Int)->D
 |some xy=>K9 xy.1 xy.2
 |none=>.non
def Zff {k:Nat}{a1 a2:Addr}{t u:Tk}{p:Po4}(ht:TB k t)(hu:TB k u)(hp:PoOk k p)(hk:k<=100)(hm:t.h≠0\/u.h≠0):F_time_to [.ob a1 "Track" t.r,.ob a2 "Track" u.r,.im p.D]=.ok (.im (tD (tval t u p))):=by
 obtain⟨d,e,h⟩:=Ly (a1:=a1) (a2:=a2) ht hu hp hk hm
 rw[e]
 congr 2
 unfold tval
 rcases h with⟨rfl,h⟩|⟨x,y,h,rfl⟩
 ·by_cases h1:t.h=0
  ·have h2:=hm.resolve_left (fun z=>z h1)
   rw[if_neg (fun z=>z h1)]
   by_cases he:p.a=t.n/\p.b=t.m
   ·exact absurd (.oth h1 he h2) (h _ _)
   ·rw[if_neg he];rfl
  ·rw[if_pos h1]
   by_cases h2:u.h=0
   ·rw[if_neg (fun z=>z h2)]
    by_cases he:p.c=u.n/\p.d=u.m
    ·exact absurd (.one h1 h2 he) (h _ _)
    ·rw[if_neg he];rfl
   ·rw[if_pos h2]
    by_cases he:t.tm p.a p.b*p.d=u.tm p.c p.d*p.b
    ·exact absurd (.two h1 h2 he) (h _ _)
    ·rw[if_neg he];rfl
 ·cases h with
  |two a b c=>rw[if_pos a,if_pos b,if_pos c];rfl
  |one a b c=>rw[if_pos a,if_neg (fun z=>z b),if_pos c];rfl
  |oth a b c=>rw[if_neg (fun z=>z a),if_pos b];rfl
def Zcn {k:Nat}{t:Tk}{n d:Int}(ht:TB k t)(h:Fr k n d):Fr (k+(k+k+1)+k+1) (t.tm n d) d:=by
 have h1:(t.line*d-n).natAbs<=10 ^ (k+k+1):=Nd (Q4 ht.li h.bot) (Nat.le_trans h.top (Vx (by lia)))
 have h3:(t.h*(t.line*d-n)*t.lap).natAbs<=10 ^ (k+(k+k+1)+k):=Q4 (Q4 ht.h h1) ht.lap
 exact⟨h.pos,Nd (Nat.le_trans (Q4 ht.due h.bot) (Vx (by lia))) h3,Nat.le_trans h.bot (Vx (by lia))⟩
def Fy {k:Nat}{t u:Tk}{p:Po4}{xy:Int×Int}(ht:TB k t)(hu:TB k u)(hp:PoOk k p)(h:tval t u p=some xy):Fr (k+(k+k+1)+k+1) xy.1 xy.2:=by
 unfold tval at h
 split at h
 ·split at h
  ·split at h
   ·cases h;exact Zcn ht hp.x
   ·cases h
  ·split at h
   ·cases h;exact Zcn ht hp.x
   ·cases h
 ·split at h
  ·cases h;exact Zcn hu hp.y
  ·cases h
abbrev Fz:=Option (Po4×Int×Int)
def Xe (c:Po4->Option (Int×Int))(s:Fz)(p:Po4):Fz:=match c p with
 |none=>s
 |some (x,y)=>match s with
  |none=>some (p,x,y)
  |some (q,x',y')=>if x*y'<x'*y then some (p,x,y) else some (q,x',y')
def Yk (c:Option (Int×Int))(lo hi:Int):Option (Int×Int):=match c with
 |some (x,y)=>if lo*y<x/\x<hi*y then some (x,y) else none
 |none=>none
def Uv {c:Option (Int×Int)}{lo hi x y:Int}(h:c=some (x,y))(a:lo*y<x/\x<hi*y):Yk c lo hi=some (x,y):=by rw[h];exact if_pos a
def K8 {c:Option (Int×Int)}{lo hi x y:Int}(h:c=some (x,y))(a:¬(lo*y<x/\x<hi*y)):Yk c lo hi=none:=by rw[h];exact if_neg a
def Jh {c:Po4->Option (Int×Int)}{s:Fz}{p:Po4}(h:c p=none):Xe c s p=s:=by unfold Xe;rw[h]
def Pb {c:Po4->Option (Int×Int)}{p:Po4}{x y:Int}(h:c p=some (x,y)):Xe c none p=some (p,x,y):=by unfold Xe;rw[h]
def Cp {c:Po4->Option (Int×Int)}{p q:Po4}{x y x' y':Int}(h:c p=some (x,y))(hl:x*y'<x'*y):Xe c (some (q,x',y')) p=some (p,x,y):=by unfold Xe;rw[h];exact if_pos hl
def Cq {c:Po4->Option (Int×Int)}{p q:Po4}{x y x' y':Int}(h:c p=some (x,y))(hl:¬x*y'<x'*y):Xe c (some (q,x',y')) p=some (q,x',y'):=by unfold Xe;rw[h];exact if_neg hl
def Tw:Fz->D
 |none=>.non
 |some (p,_,_)=>p.D
def Cr (wt:Int):Fz->D
 |none=>nD wt 1
 |some (_,x,y)=>K9 x y
noncomputable def Zmv:Zi->M O:=Zx (Z5 7 (Sc F_time_to (Wa 1 (Wa 2 (Ax (Zd 6) Aw)))))
   (Xw (tA (DL.tB (Zl Xl (Zd 7) (eC .non))) (tA (DL.tB (Zv Kq (Zb (Qq (Zb ↑0 (Zb ↑1 Zh))) (Zb (Zd 7) Zh)))) (DL.tB (Zv Kq (Zb (Zd 7) (Zb (Zd 5) Zh))))))
    (Zx (Z5 4 (Zd 6)) (Z5 5 (Zd 7))) Q3)
def Zkv (k:Nat):Fz->Prop
 |none=>True
 |some (_,x,y)=>Fr k x y
section
variable {k:Nat}{ad1 ad2:Addr}{t u:Tk}{wt:Int}
def Zco (sd:Zi)(x y:Int)(e:sd[7]?=some (Io (K9 x y))):DL.tB (Zl Xl (Zd 7) (eC .non)) sd=.ok true:=by
 refine Qg (Zk (x:=K9 x y) (y:=.non) ?_ rfl rfl)
 unfold Zd;rw[e]
def Zfg (fl:S)(ht:TB k t)(hu:TB k u)(hk:k<=60)(hm:t.h≠0\/u.h≠0)(hw:Fr k wt 1){p:Po4}(hp:PoOk k p){s:Fz}(hs:Zkv (k+(k+k+1)+k+1) s)(hs':∀q x y,s=some (q,x,y)->x<wt*y)(v7:Option S):
  ∃w7,Zmv [some fl,some (.ob ad1 "Track" t.r),some (.ob ad2 "Track" u.r),Jo wt,Io (Tw s),Io (Cr wt s),Io p.D,v7] =
   .ok (.nx [some fl,some (.ob ad1 "Track" t.r),some (.ob ad2 "Track" u.r),Jo wt,Io (Tw (Xe (fun p=>Yk (tval t u p) 0 wt) s p)),Io (Cr wt (Xe (fun p=>Yk (tval t u p) 0 wt) s p)),Io p.D,w7]):=by
 have e1:Sc F_time_to (Wa 1 (Wa 2 (Ax (Zd 6) Aw))) [some fl,some (.ob ad1 "Track" t.r),some (.ob ad2 "Track" u.r),Jo wt,Io (Tw s),Io (Cr wt s),Io p.D,v7]=.ok (tD (tval t u p)):=by
  show Gw (F_time_to [.ob ad1 "Track" t.r,.ob ad2 "Track" u.r,.im p.D])=_
  rw[Zff ht hu hp (by lia) hm]
  rfl
 refine⟨Io (tD (tval t u p)),go (Z1 e1) ?_⟩
 cases ev:tval t u p with
 |none=>
  rw[Jh (show Yk (tval t u p) 0 wt=none by rw[ev];rfl)]
  exact Z2 (Oq (Qg (Zk (g:=Xl) (x:=.non) (y:=.non) rfl rfl rfl)))
 |some xy=>
  obtain⟨x,y⟩:=xy
  have hf:=Fy ht hu hp ev
  obtain⟨n,d,el,hnd,em,_⟩:=Bp hf
  have b0:DL.tB (Zv Kq (Zb (Qq (Zb ↑0 (Zb ↑1 Zh))) (Zb (Zd 7) Zh))) [some fl,some (.ob ad1 "Track" t.r),some (.ob ad2 "Track" u.r),Jo wt,Io (Tw s),Io (Cr wt s),Io p.D,Io (K9 x y)]=.ok (decide (0<x)):=by
   refine Qg (Zt (aC (Kc rfl rfl) (a1 (d:=nD n d) ?_)) (Rb (k:=k+(k+k+1)+k+1) ⟨by decide,by simp,Nat.pow_pos (by decide)⟩ hnd (by lia)) ?_)
   ·show M.ok (K9 x y)=_
    rw[el]
   ·show M.ok (D.bl (decide (0*d<n*1)))=_
    congr 3
    have:=S3 (a:=0) (b:=1) (c:=x) (d:=y) (p:=0) (q:=1) (p':=n) (q':=d) (by decide) hf.pos (by decide) hnd.pos rfl em
    simp only[Int.zero_mul,Int.mul_one] at this ⊢
    exact propext this
  have b1:∃sx sy,0<sy/\(s=none->sx=wt/\sy=1)/\(∀q x' y',s=some (q,x',y')->sx=x'/\sy=y')/\DL.tB (Zv Kq (Zb (Zd 7) (Zb (Zd 5) Zh))) [some fl,some (.ob ad1 "Track" t.r),some (.ob ad2 "Track" u.r),Jo wt,Io (Tw s),Io (Cr wt s),Io p.D,Io (K9 x y)]=.ok (decide (x*sy<sx*y)):=by
   cases s with
   |none=>
    refine⟨wt,1,by decide,fun _=>⟨rfl,rfl⟩,(fun _ _ _ h=>by cases h),Qg (Zt (aC (d:=nD n d) ?_ (a1 (d:=nD wt 1) rfl)) (Rb hnd (hw.mono (by lia)) (by lia)) ?_)⟩
    ·show M.ok (K9 x y)=_
     rw[el]
    ·show M.ok (D.bl (decide (n*1<wt*d)))=_
     congr 3
     exact propext (S3 (a:=x) (b:=y) (c:=wt) (d:=1) hf.pos (by decide) hnd.pos (by decide) em rfl)
   |some z=>
    obtain⟨q,x',y'⟩:=z
    have hs:Fr _ x' y':=hs
    obtain⟨n',d',el',hnd',em',_⟩:=Bp hs
    refine⟨x',y',hs.pos,(fun h=>by cases h),(fun _ _ _ h=>by cases h;exact⟨rfl,rfl⟩),Qg (Zt (aC (d:=nD n d) ?_ (a1 (d:=nD n' d') ?_)) (Rb hnd hnd' (by lia)) ?_)⟩
    ·show M.ok (K9 x y)=_
     rw[el]
    ·show M.ok (K9 x' y')=_
     rw[el']
    ·show M.ok (D.bl (decide (n*d'<n'*d)))=_
     congr 3
     exact propext (S3 hf.pos hs.pos hnd.pos hnd'.pos em em')
  obtain⟨sx,sy,psy,n1,n2,b1⟩:=b1
  have nn:DL.tB (Zl Xl (Zd 7) (eC .non)) [some fl,some (.ob ad1 "Track" t.r),some (.ob ad2 "Track" u.r),Jo wt,Io (Tw s),Io (Cr wt s),Io p.D,Io (K9 x y)]=.ok true:=Zco _ x y rfl
  by_cases h0:0<x
  ·by_cases h1:x*sy<sx*y
   ·have acc:0*y<x/\x<wt*y:=by
     refine⟨by lia,?_⟩
     cases hs0:s with
     |none=>obtain⟨rfl,rfl⟩:=n1 hs0;lia
     |some z=>
      obtain⟨q,x',y'⟩:=z
      obtain⟨rfl,rfl⟩:=n2 _ _ _ hs0
      have h2:=hs' _ _ _ hs0
      have h3:=Int.mul_lt_mul_of_pos_right h2 hf.pos
      have h4:x*sy<wt*y*sy:=by
       refine Int.lt_trans h1 ?_
       rw[Int.mul_right_comm]
       exact h3
      exact Int.lt_of_mul_lt_mul_right h4 (Int.le_of_lt psy)
    refine(Ql (Sy nn (Sy (b0.trans (by rw[decide_eq_true h0])) (b1.trans (by rw[decide_eq_true h1])))) (go (Z1 rfl) (Z1 rfl))).trans ?_
    have hw':=Uv ev acc
    cases s with
    |none=>rw[Pb (c:=fun p=>Yk (tval t u p) 0 wt) hw'];rfl
    |some z=>
     obtain⟨q,x',y'⟩:=z
     obtain⟨rfl,rfl⟩:=n2 _ _ _ rfl
     rw[Cp (c:=fun p=>Yk (tval t u p) 0 wt) hw' h1]
     rfl
   ·refine(Z2 (Sy nn (Sy (b0.trans (by rw[decide_eq_true h0])) (b1.trans (by rw[decide_eq_false h1]))))).trans ?_
    cases s with
    |none=>
     obtain⟨rfl,rfl⟩:=n1 rfl
     rw[Jh (c:=fun p=>Yk (tval t u p) 0 sx) (K8 ev (by lia))]
     rfl
    |some z=>
     obtain⟨q,x',y'⟩:=z
     obtain⟨rfl,rfl⟩:=n2 _ _ _ rfl
     by_cases acc:0*y<x/\x<wt*y
     ·rw[Cq (c:=fun p=>Yk (tval t u p) 0 wt) (Uv ev acc) h1];rfl
     ·rw[Jh (c:=fun p=>Yk (tval t u p) 0 wt) (K8 ev acc)];rfl
  ·refine(Z2 (Sy nn (Oq (b0.trans (by rw[decide_eq_false h0]))))).trans ?_
   rw[Jh (c:=fun p=>Yk (tval t u p) 0 wt) (K8 ev (by lia))]
   rfl
def Zcp (ht:TB k t)(hu:TB k u){p:Po4}(hp:PoOk k p){s:Fz}(hs:Zkv (k+(k+k+1)+k+1) s/\∀q x y,s=some (q,x,y)->x<wt*y):
  Zkv (k+(k+k+1)+k+1) (Xe (fun p=>Yk (tval t u p) 0 wt) s p)/\∀q x y,Xe (fun p=>Yk (tval t u p) 0 wt) s p=some (q,x,y)->x<wt*y:=by
 cases ev:tval t u p with
 |none=>
  rw[Jh (show Yk (tval t u p) 0 wt=none by rw[ev];rfl)]
  exact hs
 |some xy=>
  obtain⟨x,y⟩:=xy
  have hf:=Fy ht hu hp ev
  by_cases acc:0*y<x/\x<wt*y
  ·have hw':=Uv ev acc
   have new:Zkv (k+(k+k+1)+k+1) (some (p,x,y))/\∀q x' y',some (p,x,y)=some (q,x',y')->x'<wt*y':=⟨hf,fun q x' y' h=>by cases h;exact acc.2⟩
   cases s with
   |none=>rw[Pb (c:=fun p=>Yk (tval t u p) 0 wt) hw'];exact new
   |some z=>
    obtain⟨q,x',y'⟩:=z
    by_cases hl:x*y'<x'*y
    ·rw[Cp (c:=fun p=>Yk (tval t u p) 0 wt) hw' hl];exact new
    ·rw[Cq (c:=fun p=>Yk (tval t u p) 0 wt) hw' hl];exact hs
  ·rw[Jh (c:=fun p=>Yk (tval t u p) 0 wt) (K8 ev acc)]
   exact hs
theorem F0 (fl:S)(ht:TB k t)(hu:TB k u)(hk:k<=60)(hm:t.h≠0\/u.h≠0)(hw:Fr k wt 1):∀(ps:List Po4) (s:Fz) (v6 v7:Option S),(∀p∈ps,PoOk k p)->(Zkv (k+(k+k+1)+k+1) s/\∀q x y,s=some (q,x,y)->x<wt*y) ->
  ∃w6 w7,Xa (Xf 6) Zmv (ps.map Po4.D) [some fl,some (.ob ad1 "Track" t.r),some (.ob ad2 "Track" u.r),Jo wt,Io (Tw s),Io (Cr wt s),v6,v7] =
   .ok (.nx [some fl,some (.ob ad1 "Track" t.r),some (.ob ad2 "Track" u.r),Jo wt,Io (Tw (ps.foldl (Xe (fun p=>Yk (tval t u p) 0 wt)) s)),Io (Cr wt (ps.foldl (Xe (fun p=>Yk (tval t u p) 0 wt)) s)),w6,w7])
 |[],s,v6,v7,_,_=>⟨v6,v7,rfl⟩
 |p::ps,s,v6,v7,hp,hs=>by
  obtain⟨w7,e⟩:=Zfg (ad1:=ad1) (ad2:=ad2) fl ht hu hk hm hw (hp p (List.mem_cons_self ..)) hs.1 hs.2 v7
  obtain⟨x6,x7,e2⟩:=F0 fl ht hu hk hm hw ps (Xe (fun p=>Yk (tval t u p) 0 wt) s p) (Io p.D) w7 (fun q hq=>hp q (List.mem_cons_of_mem _ hq)) (Zcp ht hu (hp p (List.mem_cons_self ..)) hs)
  exact⟨x6,x7,(Ye rfl e).trans e2⟩
def Zcq (q:List (List Yo×D))(x y:Int)(ps:List Po4):Prop:=(Y3 q [.inl x,.inl y]=some (.lst (ps.map Po4.D)))\/(Y3 q [.inl x,.inl y]=none/\ps=[])
def Zfh (a:Addr)(g:D){q:List (List Yo×D)}{ps:List Po4}(hh:Zcq q t.sq u.sq ps)(ht:TB k t)(hu:TB k u)(hk:k<=60)(hm:t.h≠0\/u.h≠0)(hw:Fr k wt 1)(hp:∀p∈ps,PoOk k p):
  F_person_ahead [.fl a g q,.ob ad1 "Track" t.r,.ob ad2 "Track" u.r,.im (.int wt)]=.ok (.im (Tw (ps.foldl (Xe (fun p=>Yk (tval t u p) 0 wt)) none))):=by
 obtain⟨w6,w7,e⟩:=F0 (ad1:=ad1) (ad2:=ad2) (.fl a g q) ht hu hk hm hw ps none none none hp ⟨trivial,fun _ _ _ h=>by cases h⟩
 have e1:Kj (Se 0 Jk (Zb (Qq (Zb (Yd 1 "Track" "square") (Zb (Yd 2 "Track" "square") Zh))) Zh)) [some (.fl a g q),some (.ob ad1 "Track" t.r),some (.ob ad2 "Track" u.r),Jo wt,Io .non,Io (nD wt 1),none,none]=.ok (ps.map Po4.D):=by
  have e2:Se 0 Jk (Zb (Qq (Zb (Yd 1 "Track" "square") (Zb (Yd 2 "Track" "square") Zh))) Zh) [some (.fl a g q),some (.ob ad1 "Track" t.r),some (.ob ad2 "Track" u.r),Jo wt,Io .non,Io (nD wt 1),none,none]=.ok ((Y3 q [.inl t.sq,.inl u.sq]).getD (.tup [])):=by
   show Gw (Jk [.fl a g q,.im (.tup [.int t.sq,.int u.sq])])=_
   rfl
  rcases hh with h|⟨h,rfl⟩
  ·rw[h] at e2
   exact Sz e2
  ·rw[h] at e2
   exact Cj e2
 exact(Zng _ _ _ _ _ _).trans (Z6 (go (Z1 rfl) (go (Z1 (Kc rfl rfl)) (go ((Ys e1).trans e) (Z4 rfl)))))
end
structure Sd where
 up:Bool
 x:Int
 y:Int
 f:Bool
 g:Bool
def fc (b:Bool):D:=.str (if b=true then Str.ofString "m" else Str.ofString "p")
def kd (b:Bool):D:=.str (if b=true then Str.ofString "up" else Str.ofString "flat")
def Sd.D (s:Sd):D:=.tup [kd s.up,.int s.x,.int s.y,fc s.f,fc s.g]
def Qt (W H:Int)(ss:List Sd):D:=.tup [.int W,.int H,.tup (ss.map Sd.D)]
def Sd.at (s:Sd)(u:Bool)(x y:Int):Bool:=decide (s.up=u/\s.x=x/\s.y=y)
def Vp (W H:Int)(ss:List Sd)(u:Bool)(x y:Int):Option (Bool×Bool):=match ss.find? (fun s=>s.at u x y) with
 |some s=>some (s.f,s.g)
 |none=>if(if u=true then x else y)=0\/(if u=true then x else y)=(if u=true then W else H) then some (false,false) else none
def Zcr:Option (Bool×Bool)->D
 |some (f,g)=>.tup [fc f,fc g]
 |none=>.non
def Zge (a b:Bool):D.eq (kd a) (kd b)=decide (a=b):=by cases a<;>cases b<;>rfl
def Zfi (s:Sd)(u:Bool)(x y:Int):D.eq (.tup [kd s.up,.int s.x,.int s.y]) (.tup [kd u,.int x,.int y])=s.at u x y:=by
 unfold Sd.at
 simp only[D.eq,D.eqs,Zge]
 by_cases h1:s.up=u<;>by_cases h2:s.x=x<;>by_cases h3:s.y=y<;>simp[h1,h2,h3]
def Cs (b:Bool)(x y:Int):(D.tup [kd b,.int x,.int y]).dep<=60:=by cases b<;>simp[kd,D.dep,D.deps]
def fB:Zi->M O:=Xw (DL.tB (Zl Xg (Do (Zd 4) Rs (Xq ↑3)) (Qq (Zb (Zd 1) (Zb (Zd 2) (Zb (Zd 3) Zh)))))) (Qr (Do (Zd 4) (Xq ↑3) Rs)) Q3
def Pc {fa fb fc:Zi->M D}{sd:Zi}{a b c:D}(h1:fa sd=.ok a)(h2:fb sd=.ok b)(h3:fc sd=.ok c):Qq (Zb fa (Zb fb (Zb fc Zh))) sd=.ok (.tup [a,b,c]):=by
 unfold Qq
 rw[aC h1 (aC h2 (Law.a1 h3))]
 rfl
theorem Zcs (h0:Option S)(u:Bool)(x y:Int):∀(ss:List Sd) (v:Option S),(∃s,ss.find? (fun s=>s.at u x y)=some s/\Xa (Xf 4) fB (ss.map Sd.D) [h0,Io (kd u),Jo x,Jo y,v]=.ok (.rt (.im (.tup [fc s.f,fc s.g])))) \/
  (ss.find? (fun s=>s.at u x y)=none/\∃w,Xa (Xf 4) fB (ss.map Sd.D) [h0,Io (kd u),Jo x,Jo y,v]=.ok (.nx [h0,Io (kd u),Jo x,Jo y,w]))
 |[],v=>.inr ⟨rfl,v,rfl⟩
 |s::ss,v=>by
  have e1:DL.tB (Zl Xg (Do (Zd 4) Rs (Xq ↑3)) (Qq (Zb (Zd 1) (Zb (Zd 2) (Zb (Zd 3) Zh))))) [h0,Io (kd u),Jo x,Jo y,Io s.D]=.ok (s.at u x y):=by
   refine Qg (Zk (x:=.tup [kd s.up,.int s.x,.int s.y]) rfl (Pc rfl rfl rfl) ?_)
   rw[Kg (Cs _ _ _),Zfi]
  by_cases h:s.at u x y=true
  ·refine .inl ⟨s,by rw[List.find?_cons,h],?_⟩
   rw[h] at e1
   have e2:fB [h0,Io (kd u),Jo x,Jo y,Io s.D]=.ok (.rt (.im (.tup [fc s.f,fc s.g]))):=Ql e1 (Z4 rfl)
   unfold List.map Xa
   show(fB [h0,Io (kd u),Jo x,Jo y,Io s.D]).bind _=_
   rw[e2]
   rfl
  ·have hf:s.at u x y=false:=by cases hh:s.at u x y;rfl;exact absurd hh h
   rw[hf] at e1
   have e2:fB [h0,Io (kd u),Jo x,Jo y,Io s.D]=.ok (.nx [h0,Io (kd u),Jo x,Jo y,Io s.D]):=Z2 e1
   rcases Zcs h0 u x y ss (Io s.D) with⟨s',g1,g2⟩|⟨g1,w,g2⟩
   ·exact .inl ⟨s',by rw[List.find?_cons,hf];exact g1,(Ye rfl e2).trans g2⟩
   ·exact .inr ⟨by rw[List.find?_cons,hf];exact g1,w,(Ye rfl e2).trans g2⟩
def Ziq (W H:Int)(u:Bool)(x y:Int):∃d,Xt [.int W,.int H,kd u,.int x,.int y]=.ok (.im d)/\(d=.non↔¬((if u=true then x else y)=0\/(if u=true then x else y)=(if u=true then W else H))):=by
 have e5:Nn (DL.tB (Zl Xg (Zd 2) ↑"up")) (Zd 3) (Zd 4) [Jo W,Jo H,Io (kd u),Jo x,Jo y,none,none]=.ok (.int (if u=true then x else y)):=by
  cases u
  ·exact V6 (Qg (Zk rfl rfl (by rw[Kg (by simp[kd,D.dep])];rfl))) rfl
  ·exact Vn (Qg (Zk rfl rfl (by rw[Kg (by simp[kd,D.dep])];rfl))) rfl
 have e6:∀z,Nn (DL.tB (Zl Xg (Zd 2) ↑"up")) (Zd 0) (Zd 1) [Jo W,Jo H,Io (kd u),Jo x,Jo y,z,none]=.ok (.int (if u=true then W else H)):=fun z=>by
  cases u
  ·exact V6 (Qg (Zk rfl rfl (by rw[Kg (by simp[kd,D.dep])];rfl))) rfl
  ·exact Vn (Qg (Zk rfl rfl (by rw[Kg (by simp[kd,D.dep])];rfl))) rfl
 generalize (if u=true then x else y)=l at *
 generalize (if u=true then W else H)=m at *
 by_cases h0:l=0
 ·exact⟨.int 3,(Zjc _ _ _ _ _ _ _).trans (Z6 (go (Z1 e5) (go (Z1 (e6 _)) (Ya (Ql (Qg (Zk rfl rfl (by rw[Q5,h0];rfl))) (Z4 rfl)))))),by simp[h0]⟩
 ·by_cases h1:l=m
  ·exact⟨.int 4,(Zjc _ _ _ _ _ _ _).trans (Z6 (go (Z1 e5) (go (Z1 (e6 _)) (go (Z2 (Qg (Zk rfl rfl (by rw[Q5];simp[h0])))) (Ya (Ql (Qg (Zk rfl rfl (by rw[Q5];simp[h1]))) (Z4 rfl))))))),by simp[h1]⟩
  ·exact⟨.non,(Zjc _ _ _ _ _ _ _).trans (Z6 (go (Z1 e5) (go (Z1 (e6 _)) (go (Z2 (Qg (Zk rfl rfl (by rw[Q5];simp[h0])))) (go (Z2 (Qg (Zk rfl rfl (by rw[Q5];simp[h1])))) (Z4 rfl)))))),by simp[h0,h1]⟩
def F1 (W H:Int)(ss:List Sd)(u:Bool)(x y:Int):Yr [Qt W H ss,kd u,.int x,.int y]=.ok (.im (Zcr (Vp W H ss u x y))):=by
 have e0:Kj 0[2]! [Io (Qt W H ss),Io (kd u),Jo x,Jo y,none]=.ok (ss.map Sd.D):=Cj (Z0 rfl rfl (Os _ _ _ _))
 unfold Vp
 rcases Zcs (Io (Qt W H ss)) u x y ss none with⟨s,g1,g2⟩|⟨g1,w,g2⟩
 ·rw[g1]
  exact(Zdj _ _ _ _ _ _).trans (Z6 (Ya ((Ys e0).trans g2)))
 ·rw[g1]
  obtain⟨d,ed,hd⟩:=Ziq W H u x y
  have ec:Zv Xt (Zb 0[0]! (Zb 0[1]! (Zb (Zd 1) (Zb (Zd 2) (Zb (Zd 3) Zh))))) [Io (Qt W H ss),Io (kd u),Jo x,Jo y,w]=.ok d:=
   Zt (aC (Z0 rfl rfl (Yt _ _)) (aC (Z0 rfl rfl (Xi _ _ _)) (aC rfl (aC rfl (Law.a1 rfl))))) ed rfl
  by_cases hn:d=.non
  ·have hr:=hd.mp hn
   simp only[if_neg hr]
   subst hn
   exact(Zdj _ _ _ _ _ _).trans (Z6 (go ((Ys e0).trans g2) (Ya (Ql (Qg (Zk ec rfl rfl)) (Z4 rfl)))))
  ·have hr:_:=Classical.not_not.mp (fun z=>hn (hd.mpr z))
   simp only[if_pos hr]
   refine(Zdj _ _ _ _ _ _).trans (Z6 (go ((Ys e0).trans g2) (go (Z2 (Qg (Zk ec rfl ?_))) (Z4 (Kc rfl rfl)))))
   cases d<;>first|rfl|exact absurd rfl hn
def Sd.tch (s:Sd)(x y:Int):Bool:=s.at true x (y-1)||(s.at true x y||(s.at false (x-1) y||s.at false x y))
def Wx (W H:Int)(ss:List Sd)(x y:Int):Bool:=(decide (x=0\/x=W)||decide (y=0\/y=H))||ss.any (fun s=>s.tch x y)
theorem Lz {α:Type}(b:α->Bool):∀l:List α,Jp (l.map fun a=>D.bl (b a))=some (l.map b)
 |[]=>rfl
 |a::l=>by
  rw[List.map_cons,List.map_cons]
  simp only[Jp,Lz b l]
  rfl
def any_map {α:Type}(b:α->Bool)(l:List α):Zed [.lst (l.map fun a=>.bl (b a))]=.ok (.bl (l.any b)):=by
 show(match Jp (l.map fun a=>D.bl (b a)) with|some bs=>M.ok (D.bl (bs.any id))|none=>.bad)=_
 rw[Lz]
 simp
def Ct (x a b:Int):Y6 [.int x,.int a,.int b]=.ok (.im (.bl (decide (a<=x)&&decide (x<=b)))):=by
 have e:Us [.int x]=.ok (.im (.bl true)):=rfl
 refine(Zga _ _ _ _ _).trans (Z6 (Z4 (Bn (Zt (Law.a1 rfl) e rfl) (Zcb rfl rfl))))
def Znh (x a b:Int):C8 (.int x) [.int a,.int b]=decide (x=a\/x=b):=by
 have e:C8 (.int x) [.int a,.int b]=((a==x)||((b==x)||false)):=by simp only[C8,List.any_cons,List.any_nil,D.eq]
 rw[e,Bool.eq_iff_iff]
 simp only[Bool.or_false,Bool.or_eq_true,beq_iff_eq,decide_eq_true_eq]
 exact⟨fun h=>h.imp Eq.symm Eq.symm,fun h=>h.imp Eq.symm Eq.symm⟩
def Zfj (l:List Int):D.deps (l.map D.int)<=60:=Uu fun d hd=>by
 obtain⟨i,_,rfl⟩:=List.mem_map.mp hd
 simp[D.dep]
def Zgf (x a b:Int):Zee (.int x) (.tup [.int a,.int b])=.ok (.bl (decide (x=a\/x=b))):=by
 show(if D.deps [.int a,.int b]<=60 then M.ok (D.bl (C8 (.int x) [.int a,.int b])) else .bad)=_
 rw[if_pos (show D.deps [D.int a,D.int b]<=60 from Zfj [a,b]),Znh]
def Qu (u:Bool)(x y:Int):D:=.tup [kd u,.int x,.int y]
def Zni (s:Sd)(x y:Int):Zee (.tup [kd s.up,.int s.x,.int s.y]) (.lst [Qu true x (y-1),Qu true x y,Qu false (x-1) y,Qu false x y])=.ok (.bl (s.tch x y)):=by
 have hd:D.deps [Qu true x (y-1),Qu true x y,Qu false (x-1) y,Qu false x y]<=60:=Uu fun d hd=>by
  simp only[List.mem_cons,List.not_mem_nil,or_false] at hd
  rcases hd with rfl|rfl|rfl|rfl<;>exact Cs _ _ _
 show(if D.deps [Qu true x (y-1),Qu true x y,Qu false (x-1) y,Qu false x y]<=60 then M.ok (D.bl (C8 (.tup [kd s.up,.int s.x,.int s.y]) [Qu true x (y-1),Qu true x y,Qu false (x-1) y,Qu false x y])) else .bad)=_
 rw[if_pos hd]
 have sy:∀u a b,D.eq (Qu u a b) (.tup [kd s.up,.int s.x,.int s.y])=s.at u a b:=fun u a b=>by
  unfold Qu Sd.at
  simp only[D.eq,D.eqs,Zge]
  rw[Bool.eq_iff_iff]
  simp only[Bool.and_true,Bool.and_eq_true,beq_iff_eq,decide_eq_true_eq]
  exact⟨fun⟨h1,h2,h3⟩=>⟨h1.symm,h2.symm,h3.symm⟩,fun⟨h1,h2,h3⟩=>⟨h1.symm,h2.symm,h3.symm⟩⟩
 unfold Sd.tch C8
 simp only[List.any_cons,List.any_nil,sy,Bool.or_false]
def Zct {W H:Int}{ss:List Sd}(hl:ss.length<=1000){x y:Int}(x0:0<=x)(x1:x<=W)(y0:0<=y)(y1:y<=H):Vk [Qt W H ss,.int x,.int y]=.ok (.im (.bl (Wx W H ss x y))):=by
 have c1:Zv Y6 (Zb (Zd 1) (Zb ↑0 (Zb (Zd 3) Zh))) [Io (Qt W H ss),Jo x,Jo y,Jo W,Jo H,none]=.ok (.bl true):=
  Zt (aC rfl (aC rfl (Law.a1 rfl))) (Ct x 0 W) (by show M.ok (D.bl _)=_;rw[decide_eq_true x0,decide_eq_true x1];rfl)
 have c2:Zv Y6 (Zb (Zd 2) (Zb ↑0 (Zb (Zd 4) Zh))) [Io (Qt W H ss),Jo x,Jo y,Jo W,Jo H,none]=.ok (.bl true):=
  Zt (aC rfl (aC rfl (Law.a1 rfl))) (Ct y 0 H) (by show M.ok (D.bl _)=_;rw[decide_eq_true y0,decide_eq_true y1];rfl)
 have c3:DL.tO (DL.tB (Zl Zee (Zd 1) (Qq (Zb ↑0 (Zb (Zd 3) Zh))))) (DL.tB (Zl Zee (Zd 2) (Qq (Zb ↑0 (Zb (Zd 4) Zh))))) [Io (Qt W H ss),Jo x,Jo y,Jo W,Jo H,none]=.ok (decide (x=0\/x=W)||decide (y=0\/y=H)):=
  Zkr (Qg (Zk rfl (Kc rfl rfl) (Zgf x 0 W))) (Qg (Zk rfl (Kc rfl rfl) (Zgf y 0 H)))
 unfold Wx
 refine(Zga _ _ _ _ _).trans (Z6 (go (Z1 (Z0 rfl rfl (Yt _ _))) (go (Z1 (Z0 rfl rfl (Xi _ _ _))) (go (Z2 (Lw (Sx (Qg c1)) (Sx (Qg c2)))) ?_))))
 cases hb:(decide (x=0\/x=W)||decide (y=0\/y=H)) with
 |true=>
  rw[hb] at c3
  exact Ya (Ql c3 (Z4 rfl))
 |false=>
  rw[hb] at c3
  refine go (Z2 c3) (go (Z1 (d:=.lst [Qu true x (y-1),Qu true x y,Qu false (x-1) y,Qu false x y]) (Kd (aC (Pc rfl rfl rfl) (aC (Pc rfl rfl rfl) (aC (Pc rfl rfl rfl) (Law.a1 (Pc rfl rfl rfl))))) (Y8 (by show(4:Nat)<=1000000;decide)))) (Z4 (Xd (Law.a1 (Ee (Nf (Cj (Z0 rfl rfl (Os _ _ _ _))) (by rw[List.length_map];exact hl) (Zcc Sd.D (fun s=>.bl (s.tch x y)) ss fun s _=>⟨_,rfl,Zk (x:=.tup [kd s.up,.int s.x,.int s.y]) rfl rfl (Zni s x y)⟩)))) (any_map _ ss))))
inductive Th where
 |no|co|fa (b:Bool)
 deriving DecidableEq
def Th.D:Th->D
 |.no=>.non
 |.co=>.str (Str.ofString "corner")
 |.fa b=>fc b
def Th.mir:Th->Bool
 |.fa true=>true
 |_=>false
def S5 (h:Int):Option (Bool×Bool)->Th
 |none=>.no
 |some (f,g)=>.fa (if 0<h then f else g)
def thing (W H:Int)(ss:List Sd)(t u:Tk)(now:Int):Th:=
 if t.due=now/\u.due=now then(if Wx W H ss t.line u.line=true then .co else .no)
 else if t.due=now then S5 t.h (Vp W H ss true t.line u.sq)
 else if u.due=now then S5 u.h (Vp W H ss false t.sq u.line)
 else .no
def Ef (th:Th):th.D.dep<=60:=by cases th<;>simp[Th.D,fc,D.dep]
def Zir (th:Th):D.eq th.D (.str (Str.ofString "m"))=th.mir:=by
 cases th with
 |no=>rfl
 |co=>rfl
 |fa b=>cases b<;>rfl
def Zmj (th:Th):D.eq th.D (.str (Str.ofString "p"))=decide (th=.fa false):=by
 cases th with
 |no=>rfl
 |co=>rfl
 |fa b=>cases b<;>rfl
def Zmk (th:Th):D.eq th.D (.str (Str.ofString "corner"))=decide (th=.co):=by
 cases th with
 |no=>rfl
 |co=>rfl
 |fa b=>cases b<;>rfl
def Cu {x y:Int}(h:y<x):Gh (.int x) (.int y)=.ok (.bl true):=by
 show M.ok (D.bl (decide (y<x)))=_
 rw[decide_eq_true h]
def F2 {x y:Int}(h:¬y<x):Gh (.int x) (.int y)=.ok (.bl false):=by
 show M.ok (D.bl (decide (y<x)))=_
 rw[decide_eq_false h]
def Zis (a:Addr)(t:Tk)(o:Option (Bool×Bool)):F_face_ahead [.ob a "Track" t.r,.im (Zcr o)]=.ok (.im (S5 t.h o).D):=by
 refine(Zlh _ _ _ _).trans (Z6 ?_)
 cases o with
 |none=>exact Ya (Ql (Qg (Zk rfl rfl rfl)) (Z4 rfl))
 |some fg=>
  obtain⟨f,g⟩:=fg
  refine go (Z2 (Qg (Zk rfl rfl rfl))) (Z4 ?_)
  show _=M.ok (fc (if 0<t.h then f else g))
  by_cases h:0<t.h
  ·rw[if_pos h]
   exact Vn (Qg (Zk rfl rfl (Cu h))) (Z0 rfl rfl (Yt _ _))
  ·rw[if_neg h]
   exact V6 (Qg (Zk rfl rfl (F2 h))) (Z0 rfl rfl (Xi _ _ _))
def Znj (f:Zi->M D)(a0 a1 a2 a3:S):Zkk 4 f [a0,a1,a2,a3]=f [some a0,some a1,some a2,some a3]:=rfl
def Zcu {c:Zi->M Bool}{f g:Zi->M D}{sd:Zi}{r:M D}(h:c sd=.ok true)(k:f sd=r):Zf7 c f g sd=r:=by unfold Zf7;rw[h];exact k
def L1 {c:Zi->M Bool}{f g:Zi->M D}{sd:Zi}{r:M D}(h:c sd=.ok false)(k:g sd=r):Zf7 c f g sd=r:=by unfold Zf7;rw[h];exact k
def F3 (i:Nat){sd:Zi}{a b:Addr}{g:D}{q:List (List Yo×D)}{t:Tk}{W H:Int}{ss:List Sd}{up:Bool}{x y:Int}(e0:sd[0]?=some (some (.fl a (Qt W H ss) q))) (ei:sd[i]?=some (some (.ob b "Track" t.r))) {fk:Zi->M D} (hk:fk sd=.ok (.tup [kd up,.int x,.int y])):
  Wv Yr F_face_ahead i fk sd=.ok (S5 t.h (Vp W H ss up x y)).D:=by
 unfold Wv
 rw[e0,ei]
 show(if W7 (S.ob b "Track" t.r)=true then _ else _)=_
 rw[if_pos (show W7 (S.ob b "Track" t.r)=true from rfl),hk]
 have hs:(K1 [kd up,D.int x,D.int y]).isSome=true:=by cases up<;>rfl
 rw[M.bind_ok]
 dsimp only
 rw[if_pos ⟨rfl,hs⟩]
 have e1:Ny Yr (Qt W H ss) [kd up,.int x,.int y]=.ok (Zcr (Vp W H ss up x y)):=by
  unfold Ny
  rw[F1]
  rfl
 rw[e1,M.bind_ok,Zis]
 rfl
def Zcv (i:Nat){sd:Zi}{b:Addr}{t:Tk}{now:Int} (ei:sd[i]?=some (some (.ob b "Track" t.r))) (e3:sd[3]?=some (Jo now)):DL.tB (Zl Xg (Yd i "Track" "due") (Zd 3)) sd=.ok (decide (t.due=now)):=by
 refine Qg (Zk (x:=.int t.due) (y:=.int now) ?_ ?_ (by rw[Q5];rfl))
 ·unfold Yd;rw[ei];rfl
 ·unfold Zd;rw[e3]
def Zfk (a a1 a2:Addr)(q:List (List Yo×D)){W H:Int}{ss:List Sd}{t u:Tk}{now:Int}(hl:ss.length<=1000)(hc:t.due=now->u.due=now->0<=t.line/\t.line<=W/\0<=u.line/\u.line<=H):
  F_thing_at [.fl a (Qt W H ss) q,.ob a1 "Track" t.r,.ob a2 "Track" u.r,.im (.int now)]=.ok (thing W H ss t u now).D:=by
 refine(Znj _ _ _ _ _).trans ?_
 have d1:=Zcv 1 (sd:=[some (.fl a (Qt W H ss) q),some (.ob a1 "Track" t.r),some (.ob a2 "Track" u.r),Jo now]) rfl rfl
 have d2:=Zcv 2 (sd:=[some (.fl a (Qt W H ss) q),some (.ob a1 "Track" t.r),some (.ob a2 "Track" u.r),Jo now]) rfl rfl
 unfold thing
 by_cases h1:t.due=now
 ·rw[decide_eq_true h1] at d1
  by_cases h2:u.due=now
  ·rw[decide_eq_true h2] at d2
   rw[if_pos ⟨h1,h2⟩]
   obtain⟨x0,x1,y0,y1⟩:=hc h1 h2
   refine Zcu (Sy d1 d2) ?_
   have ec:=Zct (W:=W) (H:=H) (ss:=ss) hl x0 x1 y0 y1
   cases hb:Wx W H ss t.line u.line with
   |true=>
    rw[hb] at ec
    exact Vn (Qg (Zt (aC rfl (aC (Wn 1 rfl) (Law.a1 (Wn 2 rfl)))) ec rfl)) rfl
   |false=>
    rw[hb] at ec
    exact V6 (Qg (Zt (aC rfl (aC (Wn 1 rfl) (Law.a1 (Wn 2 rfl)))) ec rfl)) rfl
  ·rw[decide_eq_false h2] at d2
   rw[if_neg (fun z=>h2 z.2),if_pos h1]
   refine L1 (Sy d1 d2) (Zcu d1 (F3 1 (g:=.non) (up:=true) rfl rfl (Pc rfl (Wn 1 rfl) rfl)))
 ·rw[decide_eq_false h1] at d1
  rw[if_neg (fun z=>h1 z.1),if_neg h1]
  by_cases h2:u.due=now
  ·rw[decide_eq_true h2] at d2
   rw[if_pos h2]
   exact L1 (Oq d1) (L1 d1 (Zcu d2 (F3 2 (g:=.non) (up:=false) rfl rfl (Pc rfl rfl (Wn 2 rfl)))))
  ·rw[decide_eq_false h2] at d2
   rw[if_neg h2]
   exact L1 (Oq d1) (L1 d1 (L1 d2 rfl))
def Ji (th:Th)(over may:Bool):Option Str:=match th with
 |.co=>some (Str.ofString "corner")
 |.no=>if over=true then some (Str.ofString "end") else none
 |.fa false=>if over=true then some (Str.ofString "end") else some (Str.ofString "plain")
 |.fa true=>if over=true then some (Str.ofString "end") else if may=true then none else some (Str.ofString "many")
def F4:Option Str->D
 |some s=>.str s
 |none=>.non
def Zit (th:Th)(over may:Bool):Jb [th.D,.bl over,.bl may]=.ok (.im (F4 (Ji th over may))):=by
 refine(Zga _ _ _ _ _).trans (Z6 ?_)
 have c1:∀s:String,DL.tB (Zl Xg (Zd 0) (eC (.str (Str.ofString s)))) [Io th.D,Io (.bl over),Io (.bl may)]=.ok (D.eq th.D (.str (Str.ofString s))):=fun s=>Qg (Zk (x:=th.D) rfl rfl (Kg (Ef th)))
 have cc:=c1 "corner"
 have cp:=c1 "p"
 have cm:=c1 "m"
 rw[Zmk] at cc
 rw[Zmj] at cp
 rw[Zir] at cm
 cases th with
 |co=>exact Ya (Ql cc (Z4 rfl))
 |no=>
  cases over with
  |true=>exact go (Z2 cc) (Ya (Ql rfl (Z4 rfl)))
  |false=>exact go (Z2 cc) (go (Z2 rfl) (go (Z2 cp) (go (Z2 (Oq cm)) (Z4 rfl))))
 |fa b=>
  cases over with
  |true=>cases b<;>exact go (Z2 cc) (Ya (Ql rfl (Z4 rfl)))
  |false=>
   cases b with
   |false=>exact go (Z2 cc) (go (Z2 rfl) (Ya (Ql cp (Z4 rfl))))
   |true=>
    cases may with
    |true=>exact go (Z2 cc) (go (Z2 rfl) (go (Z2 cp) (go (Z2 (Sy cm (Sx rfl))) (Z4 rfl))))
    |false=>exact go (Z2 cc) (go (Z2 rfl) (go (Z2 cp) (Ya (Ql (Sy cm (Zme (b:=false) rfl)) (Z4 rfl)))))
def place (t:Tk)(now:Int):D:=if t.h=0 then nD t.n t.m else K9 (t.line*t.lap-t.h*(t.due-now)) t.lap
def Yh (t u:Tk)(now:Int):D:=.tup [place t now,place u now]
def Qi (t:Tk)(now:Int)(th:Th):Tk:=if t.due=now then(if th.mir=true then {t with h:=-t.h,due:=t.due+t.lap} else {t with sq:=t.sq+t.h,due:=t.due+t.lap}) else t
def F5 (t:Tk)(now:Int)(th:Th):F_pass_line t.r [.int now,th.D]=some (Qi t now th).r:=by
 unfold Tk.r
 rw[Zin _ _ _ _ _ _ _ (Ef th),Zir]
 unfold Qi
 by_cases h:t.due=now
 ·rw[if_pos h,if_pos h]
  cases th.mir<;>rfl
 ·rw[if_neg h,if_neg h]
def Ke:Nat:=10 ^ 54
def S6:(10:Nat) ^ 56=100*Ke:=rfl
def Bu:10 ^ 10<=Ke:=by decide
structure PB (z:Nat) (p q:Int):Prop where
 fr:Fr 15 p q
 p0:0<p
 p1:p<(z:Int)*q
 g:Int.gcd p q=1
 nw:∀k:Int,k*q≠p
def PIn.pb {z:Nat}{p q:Int}(h:PIn z p q):PB z p q:=⟨h.fr.mono (by decide),h.p0,h.p1,h.g,h.nw⟩
structure TI (z:Nat) (T now:Int) (t:Tk):Prop where
 pn:PB z t.n t.m
 z8:z<=8
 s0:0<=t.sq
 s1:t.sq<z
 l0:0<=t.lap
 mv:(t.h=0/\t.due=T+1/\t.sq=t.n/t.m)\/((t.h=1\/t.h = -1)/\0<t.lap/\now<t.due/\t.due<=now+t.lap)
structure WS (W H:Nat) (T now:Int) (t u:Tk):Prop where
 x:TI W T now t
 y:TI H T now u
 mv:t.h≠0\/u.h≠0
 n0:0<=now
 n1:now<T
 at0:now=0\/(t.h≠0/\t.due=now+t.lap)\/(u.h≠0/\u.due=now+u.lap)
section
variable {z W H:Nat}{T now:Int}{t u:Tk}
theorem TI.line (h:TI z T now t):0<=t.line/\t.line<=z:=by
 have:=h.s0
 have:=h.s1
 unfold Tk.line Yn
 split<;>lia
def TI.tb (h:TI z T now t)(l1:t.lap<=Ke)(n0:0<=now)(n1:now<T)(t1:T<=Ke):TB 56 t:=by
 have hl:=h.line
 have:=h.z8
 have:=h.l0
 have bg:=Bu
 refine⟨h.pn.fr.mono (by decide),?_,?_,?_,?_⟩<;>rw[S6]
 ·lia
 ·rcases h.mv with⟨a,_⟩|⟨a,_⟩<;>lia
 ·rcases h.mv with⟨_,a,_⟩|⟨_,_,_,a⟩<;>lia
 ·lia
def Zp (t u:Tk)(T:Int):Int:=min (min t.due u.due) T
def WS.nxt (h:WS W H T now t u):now<Zp t u T/\Zp t u T<=T/\Zp t u T<=t.due/\Zp t u T<=u.due:=by
 have:=h.n1
 have a:now<t.due:=by rcases h.x.mv with⟨_,a,_⟩|⟨_,_,a,_⟩<;>lia
 have b:now<u.due:=by rcases h.y.mv with⟨_,a,_⟩|⟨_,_,a,_⟩<;>lia
 unfold Zp
 lia
def Cv (a:Addr)(h:TI z T now t)(l1:t.lap<=Ke){w:Int}(n0:0<=now)(n1:now<T)(t1:T<=Ke)(w0:0<=w)(w1:w<=T):Yj [.ob a "Track" t.r,.im (.int w)]=.ok (.im (place t w)):=by
 unfold place
 have tb:=h.tb l1 n0 n1 t1
 have bg:=Bu
 by_cases hh:t.h=0
 ·rw[if_pos hh]
  have:=Zch a (nD t.n t.m) t.sq t.due t.lap w
  unfold Tk.r
  rw[hh]
  exact this
 ·rw[if_neg hh]
  have hl:0<t.lap:=by rcases h.mv with⟨z,_⟩|⟨_,z,_⟩;exact absurd z hh;exact z
  refine Zfa (k:=56) a (nD t.n t.m) hh hl tb.lap tb.li tb.h ?_ (by decide)
  rw[S6]
  rcases h.mv with⟨z,_⟩|⟨_,_,z1,z2⟩
  ·exact absurd z hh
  ·lia
def Ow (x y:Int)(p:Po4):Bool:=decide (p.a/p.b=x/\p.c/p.d=y)
def Vq (ps:List Po4)(T:Int)(t u:Tk):Fz:=(ps.filter (Ow t.sq u.sq)).foldl (Xe (fun p=>Yk (tval t u p) 0 T)) none
def wk (W H:Int)(ss:List Sd)(ps:List Po4)(T:Int)(most:Nat):Nat->Tk->Tk->List D->Option D
 |0,_,_,_=>none
 |n+1,t,u,tn=>match Vq ps T t u with
  |some (p,_)=>some (.tup [.str (Str.ofString "person"),p.D,.lst tn])
  |none=>match Ji (thing W H ss t u (Zp t u T)) (decide (Zp t u T=T)) (decide (tn.length<most)) with
   |some w=>some (.tup [.str w,Yh t u (Zp t u T),.lst tn])
   |none=>wk W H ss ps T most n (Qi t (Zp t u T) (thing W H ss t u (Zp t u T))) (Qi u (Zp t u T) (thing W H ss t u (Zp t u T))) (if(thing W H ss t u (Zp t u T)).mir=true then tn++[Yh t u (Zp t u T)] else tn)
def F6 {th:Th}{n':Int}(h:TI z T now t)(a:now<n')(b:n'<=t.due)(c:n'<T)(hm:t.due=n'->th.mir=false->t.line≠0/\t.line≠z):TI z T n' (Qi t n' th):=by
 have h0:=h.s0
 have h1:=h.s1
 unfold Qi
 by_cases hd:t.due=n'
 ·rw[if_pos hd]
  rcases h.mv with⟨_,z1,_⟩|⟨z1,z2,z3,z4⟩
  ·lia
  ·cases hq:th.mir with
   |true=>exact⟨h.pn,h.z8,h.s0,h.s1,h.l0,.inr ⟨by show -t.h=1 \/ -t.h = -1;lia,z2,by show n'<t.due+t.lap;lia,by show t.due+t.lap<=n'+t.lap;lia⟩⟩
   |false=>
    have hl:=hm hd hq
    unfold Tk.line Yn at hl
    refine⟨h.pn,h.z8,?_,?_,h.l0,.inr ⟨z1,z2,by show n'<t.due+t.lap;lia,by show t.due+t.lap<=n'+t.lap;lia⟩⟩
    ·show 0<=t.sq+t.h
     rcases z1 with z1|z1<;>rw[z1] at hl ⊢<;>simp at hl<;>lia
    ·show t.sq+t.h<z
     rcases z1 with z1|z1<;>rw[z1] at hl ⊢<;>simp at hl<;>lia
 ·rw[if_neg hd]
  refine⟨h.pn,h.z8,h.s0,h.s1,h.l0,?_⟩
  rcases h.mv with z1|⟨z1,z2,z3,z4⟩
  ·exact .inl z1
  ·exact .inr ⟨z1,z2,by lia,by lia⟩
def pass_h {th:Th}{n':Int}:(Qi t n' th).h≠0↔t.h≠0:=by
 unfold Qi
 split
 ·split
  ·show -t.h≠0↔_
   lia
  ·exact Iff.rfl
 ·exact Iff.rfl
def Wo {th:Th}{n':Int}(h:t.due=n'):(Qi t n' th).due=n'+(Qi t n' th).lap:=by
 unfold Qi
 rw[if_pos h]
 split
 ·show t.due+t.lap=n'+t.lap
  rw[h]
 ·show t.due+t.lap=n'+t.lap
  rw[h]
def Cw {ss:List Sd}{up:Bool}{x y:Int}{W H:Int}(h:Vp W H ss up x y=none):(if up=true then x else y)≠0/\(if up=true then x else y)≠(if up=true then W else H):=by
 unfold Vp at h
 cases hf:ss.find? (fun s=>s.at up x y) with
 |some s=>rw[hf] at h;cases h
 |none=>
  rw[hf] at h
  dsimp only at h
  by_cases q:(if up=true then x else y)=0\/(if up=true then x else y)=(if up=true then W else H)
  ·rw[if_pos q] at h;cases h
  ·exact⟨fun z=>q (.inl z),fun z=>q (.inr z)⟩
def Ox {ss:List Sd}{x y:Int}{W H:Int}(h:Wx W H ss x y=false):x≠0/\x≠W/\y≠0/\y≠H:=by
 unfold Wx at h
 simp only[Bool.or_eq_false_iff,decide_eq_false_iff_not] at h
 lia
def S7 {h:Int}{o:Option (Bool×Bool)}(e:S5 h o=.no):o=none:=by
 cases o with
 |none=>rfl
 |some p=>cases e
def Oy {ss:List Sd}{n':Int}{th:Th}(e:thing W H ss t u n'=th)(hno:th=.no):(t.due=n'->t.line≠0/\t.line≠W)/\(u.due=n'->u.line≠0/\u.line≠H):=by
 subst e
 unfold thing at hno
 split at hno
 ·rename_i hd
  split at hno
  ·cases hno
  ·rename_i hc
   have:=Ox (Bool.eq_false_iff.mpr hc)
   exact⟨fun _=>⟨this.1,this.2.1⟩,fun _=>this.2.2⟩
 ·rename_i hd
  split at hno
  ·rename_i h1
   have:=Cw (S7 hno)
   exact⟨fun _=>this,fun z=>absurd ⟨h1,z⟩ hd⟩
  ·rename_i h1
   split at hno
   ·have:=Cw (S7 hno)
    exact⟨fun z=>absurd z h1,fun _=>this⟩
   ·rename_i h2
    exact⟨fun z=>absurd z h1,fun z=>absurd z h2⟩
def V9 {th:Th}{over may:Bool}(h:Ji th over may=none):over=false/\(th=.no\/(th=.fa true/\may=true)):=by
 cases th with
 |co=>cases h
 |no=>cases over;exact⟨rfl,.inl rfl⟩;cases h
 |fa b=>
  cases over
  ·cases b
   ·cases h
   ·cases may
    ·cases h
    ·exact⟨rfl,.inr ⟨rfl,rfl⟩⟩
  ·cases b<;>cases h
def WS.step {ss:List Sd}{may:Bool}(h:WS W H T now t u)(hw:Ji (thing W H ss t u (Zp t u T)) (decide (Zp t u T=T)) may=none):
  WS W H T (Zp t u T) (Qi t (Zp t u T) (thing W H ss t u (Zp t u T))) (Qi u (Zp t u T) (thing W H ss t u (Zp t u T))):=by
 obtain⟨a1,a2,a3,a4⟩:=h.nxt
 obtain⟨w1,w2⟩:=V9 hw
 have w1:=of_decide_eq_false w1
 have lt:Zp t u T<T:=by lia
 have hrim:(thing W H ss t u (Zp t u T)).mir=false->(t.due=Zp t u T->t.line≠0/\t.line≠W)/\(u.due=Zp t u T->u.line≠0/\u.line≠H):=fun hm=>by
  rcases w2 with w2|⟨w2,_⟩
  ·exact Oy rfl w2
  ·rw[w2] at hm;cases hm
 have du:t.due=Zp t u T\/u.due=Zp t u T:=by unfold Zp at lt ⊢;lia
 refine⟨F6 h.x a1 a3 lt fun z1 z2=>(hrim z2).1 z1,F6 h.y a1 a4 lt fun z1 z2=>(hrim z2).2 z1,?_,by have:=h.n0;lia,lt,.inr ?_⟩
 ·rw[pass_h,pass_h];exact h.mv
 ·rcases du with d|d
  ·refine .inl ⟨?_,Wo d⟩
   rw[pass_h]
   rcases h.x.mv with⟨_,z,_⟩|⟨z,_⟩<;>lia
  ·refine .inr ⟨?_,Wo d⟩
   rw[pass_h]
   rcases h.y.mv with⟨_,z,_⟩|⟨z,_⟩<;>lia
end
def Jc {t:Tk}(w:Int)(th:Th):(Qi t w th).lap=t.lap:=by
 unfold Qi
 split
 ·split<;>rfl
 ·rfl
theorem PoOk.mono {j k:Nat}{p:Po4}(h:PoOk j p)(hk:j<=k):PoOk k p:=⟨h.x.mono hk,h.y.mono hk⟩
section
variable {W H:Nat}{T:Int}{ss:List Sd}{ps:List Po4}{most:Nat} (a a1 a2:Addr) (q:M1) (g pt st:D)
def Zfl (mo:Nat)(r1 r2:Q2)(tn:List D)(now:Int)(th:Th):
  Fp (N6 a a1 a2 g (qD q) pt st (.int mo) (.int T) r1 r2 tn none (Jo now) (Io th.D) none)=.ok (F4 (Ji th (decide (now=T)) (decide (tn.length<mo)))):=by
 unfold Fp E6
 have e:Zv Jb (Zb (Zd 10) (Zb (Zl Xg (Zd 9) (Zd 4)) (Zb (Zl Zau (J2 V0 (Zb (Zd 7) Zh)) (Zd 3)) Zh))) (frz 7 (N6 a a1 a2 g (qD q) pt st (.int mo) (.int T) r1 r2 tn none (Jo now) (Io th.D) none))=.ok (F4 (Ji th (decide (now=T)) (decide (tn.length<mo)))):=by
  refine Zt (aC rfl (aC (Zk (x:=.int now) (y:=.int T) rfl rfl (by rw[Q5])) (Law.a1 (d:=.bl (decide (tn.length<mo))) (Zk (x:=.int tn.length) (y:=.int mo) (Xd (Law.a1 rfl) Pa) rfl ?_)))) (s:=.im (F4 (Ji th (decide (now=T)) (decide (tn.length<mo))))) ?_ rfl
  ·show M.ok (D.bl (decide ((tn.length:Int)<(mo:Int))))=_
   congr 2
   rw[Bool.eq_iff_iff]
   simp
  ·have:=Zit th (now==T) (decide (tn.length<mo))
   exact this
 rw[e]
 cases Ji th (decide (now=T)) (decide (tn.length<mo))<;>rfl
def Ziu (mo wt:D)(r1 r2:Q2)(tn:List D)(th:Th):Ze0 (N6 a a1 a2 g (qD q) pt st mo wt r1 r2 tn none none (Io th.D) none)=.ok th.mir:=
 Qg (Zk (x:=th.D) rfl rfl ((Kg (Ef th)).trans (by rw[Zir])))
def Oz (mo wt:D){t u:Tk}(tn:List D){w:Int}{p1 p2:D} (h1:Yj [.ob a1 "Track" t.r,.im (.int w)]=.ok (.im p1)) (h2:Yj [.ob a2 "Track" u.r,.im (.int w)]=.ok (.im p2)):
  Vl (N6 a a1 a2 g (qD q) pt st mo wt t.r u.r tn none (Jo w) none none)=.ok (.tup [p1,p2]):=by
 refine Kc ?_ ?_
 ·show Gw (Yj [.ob a1 "Track" t.r,.im (.int w)])=_
  rw[h1];rfl
 ·show Gw (Yj [.ob a2 "Track" u.r,.im (.int w)])=_
  rw[h2];rfl
theorem lw (hl:ss.length<=1000)(hp:∀p∈ps,PtOk W H p)(hq:∀x y,Zcq (qD q) x y (ps.filter (Ow x y)))(hm:most<=1000)(hT:T<=Ke):∀(n:Nat) (t u:Tk) (tn:List D) (now:Int) (d:D),WS W H T now t u->t.lap<=Ke->u.lap<=Ke->tn.length<=most->wk W H ss ps T most n t u tn=some d ->
  Su a a1 a2 (Qt W H ss) (qD q) pt st (.int most) (.int T) n t.r u.r tn=.ok d
 |0,_,_,_,_,_,_,_,_,_,h=>by cases h
 |n+1,t,u,tn,now,d,wi,lx,ly,htn,h=>by
  have tx:=wi.x.tb lx wi.n0 wi.n1 hT
  have ty:=wi.y.tb ly wi.n0 wi.n1 hT
  have hw:Fr 56 T 1:=by
   have:=wi.n0
   have:=wi.n1
   have:=Bu
   refine⟨by decide,?_,?_⟩<;>rw[S6]<;>lia
  have ea:D8 (N6 a a1 a2 (Qt W H ss) (qD q) pt st (.int most) (.int T) t.r u.r tn none none none none)=.ok (Tw (Vq ps T t u)):=by
   show Gw (F_person_ahead [.fl a (Qt W H ss) (qD q),.ob a1 "Track" t.r,.ob a2 "Track" u.r,.im (.int T)])=_
   rw[Zfh a (Qt W H ss) (hq t.sq u.sq) tx ty (by decide) wi.mv hw (fun p hp'=>(hp p (List.mem_filter.mp hp').1).ok.mono (by decide))]
   rfl
  unfold Su
  rw[ea,M.bind_ok]
  unfold wk at h
  cases ha:Vq ps T t u with
  |some x=>
   rw[ha] at h
   obtain⟨p,xy⟩:=x
   cases h
   rfl
  |none=>
   rw[ha] at h
   dsimp only at h
   have en:Zih (N6 a a1 a2 (Qt W H ss) (qD q) pt st (.int most) (.int T) t.r u.r tn none none none none)=.ok (.int (Zp t u T)):=rfl
   obtain⟨n1,n2,n3,n4⟩:=wi.nxt
   have n0:=wi.n0
   have et:=Zfk a a1 a2 (qD q) (t:=t) (u:=u) (now:=Zp t u T) (W:=W) (H:=H) hl fun _ _=>⟨wi.x.line.1,wi.x.line.2,wi.y.line.1,wi.y.line.2⟩
   have ep:=Oz a a1 a2 q (Qt W H ss) pt st (.int most) (.int T) tn (Cv a1 wi.x lx n0 wi.n1 hT (show 0<=Zp t u T by lia) n2) (Cv a2 wi.y ly n0 wi.n1 hT (show 0<=Zp t u T by lia) n2)
   have st':=fun may h=>WS.step (ss:=ss) (may:=may) wi h
   have ew:=Zfl (T:=T) a a1 a2 q (Qt W H ss) pt st most t.r u.r tn (Zp t u T) (thing W H ss t u (Zp t u T))
   have em:=Ziu a a1 a2 q (Qt W H ss) pt st (.int most) (.int T) t.r u.r tn (thing W H ss t u (Zp t u T))
   have e1:=F5 t (Zp t u T) (thing W H ss t u (Zp t u T))
   have e2:=F5 u (Zp t u T) (thing W H ss t u (Zp t u T))
   show(if D.isN .non=true then _ else _)=_
   rw[if_pos (show D.isN .non=true from rfl),en,M.bind_ok,et,M.bind_ok,ew,M.bind_ok]
   generalize hth:thing W H ss t u (Zp t u T)=th at *
   cases hw:Ji th (decide (Zp t u T=T)) (decide (tn.length<most)) with
   |some w=>
    rw[hw] at h
    cases h
    show(if D.isN (.str w)=true then _ else _)=_
    rw[if_neg (by intro z;cases z),ep,M.bind_ok]
    rfl
   |none=>
    rw[hw] at h
    dsimp only at h
    show(if D.isN .non=true then _ else _)=_
    rw[if_pos (show D.isN .non=true from rfl),em,M.bind_ok,ep,e1,e2]
    have wi':=st' _ hw
    obtain⟨_,w2⟩:=V9 hw
    cases hb:th.mir with
    |true=>
     rw[hb] at h
     have hlt:tn.length<most:=by
      rcases w2 with rfl|⟨_,w2⟩
      ·cases hb
      ·exact of_decide_eq_true w2
     show(M.bind (if few tn=true then M.ok (tn++[D.tup [place t (Zp t u T),place u (Zp t u T)]]) else M.bad) _)=_
     rw[if_pos (Y8 (by lia)),M.bind_ok]
     exact lw hl hp hq hm hT n _ _ _ _ d wi' (by rw[Jc];exact lx) (by rw[Jc];exact ly) (by rw[List.length_append,List.length_singleton];lia) h
    |false=>
     rw[hb] at h
     exact lw hl hp hq hm hT n _ _ _ _ d wi' (by rw[Jc];exact lx) (by rw[Jc];exact ly) htn h
end
theorem Rc {W H:Int}{ss:List Sd}{ps:List Po4}{T:Int}{most:Nat}:∀(n m:Nat) (t u:Tk) (tn:List D) (d:D),n<=m->wk W H ss ps T most n t u tn=some d->wk W H ss ps T most m t u tn=some d
 |0,_,_,_,_,_,_,h=>by cases h
 |n+1,0,_,_,_,_,hm,_=>by lia
 |n+1,m+1,t,u,tn,d,hm,h=>by
  unfold wk at h ⊢
  cases ha:Vq ps T t u with
  |some x=>rw[ha] at h;exact h
  |none=>
   rw[ha] at h
   dsimp only at h ⊢
   cases hw:Ji (thing W H ss t u (Zp t u T)) (decide (Zp t u T=T)) (decide (tn.length<most)) with
   |some w=>rw[hw] at h;exact h
   |none=>
    rw[hw] at h
    exact Rc n m _ _ _ d (by lia) h
theorem F7 {W H:Nat}{ss:List Sd}{ps:List Po4}{T:Int}{most:Nat}:∀(n kx ky:Nat) (t u:Tk) (tn:List D) (now:Int),WS W H T now t u->T<t.due+kx*t.lap->T<u.due+ky*u.lap->kx+ky<n->∃d,wk W H ss ps T most n t u tn=some d
 |0,_,_,_,_,_,_,_,_,_,h=>by lia
 |n+1,kx,ky,t,u,tn,now,wi,hx,hy,hn=>by
  unfold wk
  cases ha:Vq ps T t u with
  |some x=>exact⟨_,rfl⟩
  |none=>
   dsimp only
   cases hw:Ji (thing W H ss t u (Zp t u T)) (decide (Zp t u T=T)) (decide (tn.length<most)) with
   |some w=>exact⟨_,rfl⟩
   |none=>
    have wi':=wi.step hw
    have lt:=wi'.n1
    obtain⟨n1,n2,n3,n4⟩:=wi.nxt
    have hlap:∀(v:Tk) (th:Th),(Qi v (Zp t u T) th).lap=v.lap:=fun v th=>by
     unfold Qi;split
     ·split<;>rfl
     ·rfl
    have same:∀(v:Tk) (th:Th),v.due≠Zp t u T->(Qi v (Zp t u T) th).due=v.due:=fun v th h=>by unfold Qi;rw[if_neg h]
    have one:∀(v:Tk) (th:Th) (k:Nat),v.due=Zp t u T->T<v.due+k*v.lap->0<=v.lap->∃j,k=j+1/\T<(Qi v (Zp t u T) th).due+j*(Qi v (Zp t u T) th).lap:=fun v th k h hk h0=>by
     cases k with
     |zero=>simp at hk;lia
     |succ j=>
      refine⟨j,rfl,?_⟩
      have e:=Wo (th:=th) h
      rw[hlap] at e
      rw[hlap,e]
      have:((j+1:Nat):Int)*v.lap=j*v.lap+v.lap:=by rw[Int.natCast_add,Int.add_mul];simp
      lia
    have cases2:∀(v:Tk) (th:Th) (k:Nat),T<v.due+k*v.lap->0<=v.lap->∃j,j<=k/\(v.due=Zp t u T->j<k)/\T<(Qi v (Zp t u T) th).due+j*(Qi v (Zp t u T) th).lap:=fun v th k hk h0=>by
     by_cases h:v.due=Zp t u T
     ·obtain⟨j,e1,e2⟩:=one v th k h hk h0
      exact⟨j,by lia,fun _=>by lia,e2⟩
     ·refine⟨k,Nat.le_refl _,fun z=>absurd z h,?_⟩
      rw[same v th h,hlap];exact hk
    obtain⟨jx,x1,x2,x3⟩:=cases2 t (thing W H ss t u (Zp t u T)) kx hx wi.x.l0
    obtain⟨jy,y1,y2,y3⟩:=cases2 u (thing W H ss t u (Zp t u T)) ky hy wi.y.l0
    have du:t.due=Zp t u T\/u.due=Zp t u T:=by unfold Zp at lt ⊢;lia
    exact F7 n jx jy _ _ _ _ wi' x3 y3 (by rcases du with z|z;have:=x2 z;lia;have:=y2 z;lia)
def Zfm:D->Bool
 |.tup [_,.int q]=>decide (q=1)
 |_=>false
def Zkw (k:Nat):D->D
 |.tup ds=>(ds[k]?).getD .non
 |_=>.non
def par (k:Nat):List D->Int
 |[]=>1
 |d::l=>(if Zfm (Zkw k d)=true then -1 else 1)*par k l
theorem Bv (k:Nat):∀a b:List D,par k (a++b)=par k a*par k b
 |[],b=>(Int.one_mul _).symm
 |d::a,b=>by
  show _*par k (a++b)=_*par k a*par k b
  rw[Bv k a b,Int.mul_assoc]
section
variable {z W H:Nat}{T now w:Int}{t u:Tk}
def TI.whole (h:TI z T now t)(hm:t.h≠0)(hd:t.due=w):Zfm (place t w)=true:=by
 have l0:0<t.lap:=by rcases h.mv with a|a;exact absurd a.1 hm;exact a.2.1
 have e:place t w=nD t.line 1:=by
  unfold place
  rw[if_neg hm,hd,<-S4 (p:=t.line) (q:=1) (by decide) Int.gcd_one]
  refine V8 l0 (by decide) ?_
  rw[Int.sub_self,Int.mul_zero,Int.sub_zero,Int.mul_one]
 rw[e]
 rfl
def TI.broken (h:TI z T now t)(a:now<=w)(b:w<=t.due)(hd:t.due≠w)(hw:t.h≠0->now<w):Zfm (place t w)=false:=by
 unfold place
 by_cases hm:t.h=0
 ·rw[if_pos hm]
  refine decide_eq_false fun q=>h.pn.nw t.n ?_
  rw[q,Int.mul_one]
 ·rw[if_neg hm]
  have hw:=hw hm
  rcases h.mv with g|⟨g1,l0,g2,g3⟩
  ·exact absurd g.1 hm
  ·obtain⟨p,q,e,q0,e1,_⟩:=Xv (t:=t.line*t.lap-t.h*(t.due-w)) (b:=t.lap) l0
   rw[e]
   refine decide_eq_false fun q1=>?_
   rw[q1,Int.mul_one] at e1
   have k1:(t.line-p)*t.lap=t.h*(t.due-w):=by rw[Int.sub_mul];lia
   generalize t.line-p=c at k1
   have d1:0<t.due-w:=by lia
   have d2:t.due-w<t.lap:=by lia
   generalize t.due-w=e at *
   rcases g1 with g1|g1<;>rw[g1] at k1
   ·have c0:0<c:=Int.pos_of_mul_pos_left (show 0<c*t.lap by lia) l0
    have:=Int.mul_le_mul_of_nonneg_right (show 1<=c by lia) (Int.le_of_lt l0)
    lia
   ·have c0:0 < -c:=Int.pos_of_mul_pos_left (show 0 < -c*t.lap by rw[Int.neg_mul];lia) l0
    have:=Int.mul_le_mul_of_nonneg_right (show 1 <= -c by lia) (Int.le_of_lt l0)
    rw[Int.neg_mul] at this
    lia
def WS.turn {ss:List Sd}(h:WS W H T now t u)(hl:Zp t u T<T)(hm:(thing W H ss t u (Zp t u T)).mir=true):
  (Qi t (Zp t u T) (thing W H ss t u (Zp t u T))).h=t.h*par 0 [Yh t u (Zp t u T)]/\(Qi u (Zp t u T) (thing W H ss t u (Zp t u T))).h=u.h*par 1 [Yh t u (Zp t u T)]:=by
 obtain⟨n1,n2,n3,n4⟩:=h.nxt
 have p0:par 0 [Yh t u (Zp t u T)]=if Zfm (place t (Zp t u T))=true then -1 else 1:=Int.mul_one _
 have p1:par 1 [Yh t u (Zp t u T)]=if Zfm (place u (Zp t u T))=true then -1 else 1:=Int.mul_one _
 have kx:t.due=Zp t u T->t.h≠0:=fun z q=>by rcases h.x.mv with a|a;lia;lia
 have ky:u.due=Zp t u T->u.h≠0:=fun z q=>by rcases h.y.mv with a|a;lia;lia
 rw[p0,p1]
 have hm':=hm
 generalize hth:thing W H ss t u (Zp t u T)=th at *
 unfold thing at hth
 have np:∀v:Tk,v.due≠Zp t u T->(Qi v (Zp t u T) th).h=v.h:=fun v q=>by unfold Qi;rw[if_neg q]
 have yp:∀v:Tk,v.due=Zp t u T->(Qi v (Zp t u T) th).h = -v.h:=fun v q=>by unfold Qi;rw[if_pos q,if_pos hm]
 split at hth
 ·split at hth<;>rw[<-hth] at hm<;>cases hm
 ·rename_i hb
  by_cases hx:t.due=Zp t u T
  ·have hy:u.due≠Zp t u T:=fun q=>hb ⟨hx,q⟩
   rw[yp t hx,np u hy,h.x.whole (kx hx) hx,h.y.broken (Int.le_of_lt n1) n4 hy (fun _=>n1)]
   simp
  ·rw[if_neg hx] at hth
   by_cases hy:u.due=Zp t u T
   ·rw[yp u hy,np t hx,h.y.whole (ky hy) hy,h.x.broken (Int.le_of_lt n1) n3 hx (fun _=>n1)]
    simp
   ·rw[if_neg hy] at hth
    rw[<-hth] at hm
    cases hm
def L3 {th:Th}(hm:th.mir=false):(Qi t w th).h=t.h:=by
 unfold Qi
 split
 ·rw[hm];rfl
 ·rfl
end
section
variable {c1 c2 s T T':Int}{W H:Nat}{ss:List Sd}{ps:List Po4}{most:Nat}
def Cy {t:Tk}{w g h0:Int}{th:Th}(h:h0≠0->g ∣ t.due/\g ∣ t.lap)(q:h0≠0):g ∣ (Qi t w th).due/\g ∣ (Qi t w th).lap:=by
 obtain⟨a,b⟩:=h q
 rw[Jc]
 refine⟨?_,b⟩
 unfold Qi
 split
 ·split
  ·exact Int.dvd_add a b
  ·exact Int.dvd_add a b
 ·exact a
def Zcw {th:Th}{may:Bool}{w:Str}(h:Ji th false may=some w):w≠Str.ofString "end":=by
 cases th with
 |co=>cases h;decide
 |no=>cases h
 |fa b=>
  cases b
  ·cases h;decide
  ·cases may
   ·cases h;decide
   ·cases h
end
def m1 (a:Int):Int:=if(a.natAbs:Int) > 1 then a.natAbs else 1
def L4 (a:Int):0<m1 a/\(a≠0->m1 a=a.natAbs):=by
 unfold m1
 split
 ·exact⟨by lia,fun _=>rfl⟩
 ·exact⟨by lia,fun _=>by lia⟩
def L5 {a:Int}{k:Nat}(h:a.natAbs<=10 ^ k):(m1 a).natAbs<=10 ^ k:=by
 have:=Nat.pow_pos (n:=k) (show 0<10 by decide)
 unfold m1
 split<;>lia
def wT (p s:Po4):Int:=1*p.b*m1 s.a*p.d*m1 s.c
structure StOk (s:Po4):Prop where
 x:Fr 12 s.a s.b
 y:Fr 12 s.c s.d
 gx:Int.gcd s.a s.b=1
 gy:Int.gcd s.c s.d=1
 n0:s.a≠0\/s.c≠0
 lx:(s.a.natAbs:Int)<=1100*s.b
 ly:(s.c.natAbs:Int)<=1100*s.d
def Znk:Zi->M O:=Z5 2 (Zl Qb (Zl Qb (Zd 2) 3[1]!) (J2 A3 (Zb ↑1 (Zb (J2 Wy (Zb 4[0]! Zh)) Zh))))
def Zcx (o0 o1 o3 o4:Option S){T0 n m a b:Int}(h0:T0.natAbs<=10 ^ 100)(hm:m.natAbs<=10 ^ 100)(ha:a.natAbs<=10 ^ 100):∃sd1,K0 2 (Q0 (Xf 3) (Q0 (Xf 4) Ve)) (.tup [nD n m,nD a b]) [o0,o1,Jo T0,o3,o4]=.ok sd1 /\
  Znk sd1=.ok (.nx [o0,o1,Jo (T0*m*m1 a),Io (nD n m),Io (nD a b)]):=by
 refine⟨[o0,o1,Jo T0,Io (nD n m),Io (nD a b)],rfl,?_⟩
 have em:J2 A3 (Zb ↑1 (Zb (J2 Wy (Zb 4[0]! Zh)) Zh)) [o0,o1,Jo T0,Io (nD n m),Io (nD a b)]=.ok (.int (m1 a)):=Xd (aC rfl (Law.a1 (Xd (Law.a1 (Z0 rfl rfl (Yt _ _))) (S0 a)))) rfl
 exact Z1 (Zk (Zk rfl (Z0 rfl rfl (Xi _ _ _)) (gT (Yi h0 (by decide)) (Yi hm (by decide)))) em (gT (Yi (Q4 h0 hm) (by decide)) (Yi (L5 ha) (by decide))))
def Zfn {p s:Po4}(hp:PoOk 20 p)(hs:StOk s):Xb [p.D,s.D]=.ok (.im (.int (wT p s))):=by
 have b1:=hp.x.bot
 have b2:=hp.y.bot
 have a1:=hs.x.top
 have a2:=hs.y.top
 have le:∀{j:Nat},j<=100->(10:Nat) ^ j<=10 ^ 100:=fun h=>Vx h
 obtain⟨s1,e1,e2⟩:=Zcx (Io p.D) (Io s.D) none none (T0:=1) (n:=p.a) (m:=p.b) (a:=s.a) (b:=s.b) (Nat.pow_pos (by decide)) (Nat.le_trans b1 (le (by decide))) (Nat.le_trans a1 (le (by decide)))
 have h0:((1:Int)*p.b*m1 s.a).natAbs<=10 ^ 100:=Nat.le_trans (Q4 (j:=20) (k:=12) (by rw[Int.one_mul];exact b1) (L5 a1)) (le (by decide))
 obtain⟨s2,e3,e4⟩:=Zcx (Io p.D) (Io s.D) (Io (nD p.a p.b)) (Io (nD s.a s.b)) (T0:=1*p.b*m1 s.a) (n:=p.c) (m:=p.d) (a:=s.c) (b:=s.d) h0 (Nat.le_trans b2 (le (by decide))) (Nat.le_trans a2 (le (by decide)))
 have z:D4 (Zb (Zd 0) (Zb (Zd 1) Zh)) [Io p.D,Io s.D,Jo 1,none,none]=.ok [.tup [nD p.a p.b,nD s.a s.b],.tup [nD p.c p.d,nD s.c s.d]]:=rfl
 exact(Zf9 _ _ _ _).trans (Z6 (go (Z1 rfl) (go ((Ys z).trans ((Ye e1 e2).trans ((Ye e3 e4).trans rfl))) (Z4 rfl))))
def Vr {f g:Zi->Q2->Option (Zi×Q2)}{sd sd':Zi}{r r':Q2}{x:Option (Zi×Q2)}(h:f sd r=some (sd',r'))(k:g sd' r'=x):K4 f g sd r=x:=by
 unfold K4;rw[h];exact k
def X4 {n:Str}{e:Zi->Q2->M D}{sd:Zi}{r r':Q2}{d:D}(h:e sd r=.ok d)(hl:r.length<=900)(hr:Az n d r=r'):Nx n e sd r=some (sd,r'):=by
 unfold Nx;rw[h]
 show(if r.length<=900 then some (sd,Az n d r) else none)=_
 rw[if_pos hl,hr]
def F8 {i:Nat}{e:Zi->Q2->M D}{sd:Zi}{r:Q2}{d:D}(h:e sd r=.ok d):Oc i e sd r=some (sd.set i (Io d),r):=by
 unfold Oc;rw[h];rfl
def Zkx {c:Zi->Q2->M Bool}{f g:Zi->Q2->Option (Zi×Q2)}{sd:Zi}{r:Q2}{x:Option (Zi×Q2)}(h:c sd r=.ok true)(k:f sd r=x):Zdg c f g sd r=x:=by
 unfold Zdg;rw[h];exact k
def Zky {c:Zi->Q2->M Bool}{f g:Zi->Q2->Option (Zi×Q2)}{sd:Zi}{r:Q2}{x:Option (Zi×Q2)}(h:c sd r=.ok false)(k:g sd r=x):Zdg c f g sd r=x:=by
 unfold Zdg;rw[h];exact k
def sg (a:Int):Int:=if a > 0 then 1 else -1
def Wp (a b T:Int):Int:=b*(T/(a.natAbs:Int))
def Yl (n m a:Int):Int:=if a > 0 then m-n%m else n%m
def Uw (n m a b T:Int):Tk:=if a=0 then⟨n,m,n/m,0,T+1,0⟩ else⟨n,m,n/m,sg a,Yl n m a*(Wp a b T/m),Wp a b T⟩
def Zcy {n m a b T:Int}(hm:Fr 20 n m)(ha:Fr 12 a b)(hT:T.natAbs<=10 ^ 54):Ju [] [nD n m,nD a b,.int T]=some (Uw n m a b T).r:=by
 have sm':=Yi hm.bot (show 20<=900 by decide)
 have esq:Zv Y4 (Zb (Zd 1) Zh) [none,Io (nD n m),Io (nD a b),Jo T,none,none]=.ok (.int (n/m)):=
  Zt (Law.a1 rfl) ((Ze4 _ _ _).trans (Z6 (Z4 (Zk (Z0 rfl rfl (Yt _ _)) (Z0 rfl rfl (Xi _ _ _)) (Ci hm.pos sm'))))) rfl
 have c0:DL.tB (Zl W0 2[0]! ↑0) [none,Io (nD n m),Io (nD a b),Jo T,none,none]=.ok (!(a==0)):=by
  refine Qg (Zk (Z0 rfl rfl (Yt _ _)) rfl ?_)
  rw[V7 (by simp[D.dep])]
  rfl
 have fin:∀{g:Zi->Q2->Option (Zi×Q2)}{sd':Zi}{r':Q2},g [none,Io (nD n m),Io (nD a b),Jo T,none,none] []=some (sd',r')->Zdh 3 2 g [] [nD n m,nD a b,.int T]=some r':=fun {g sd' r'} h=>by
  unfold Zdh
  rw[if_pos (show [nD n m,nD a b,D.int T].length=3 from rfl)]
  show Option.map _ (g [none,Io (nD n m),Io (nD a b),Jo T,none,none] [])=_
  rw[h]
  rfl
 unfold Uw
 by_cases h0:a=0
 ·rw[if_pos h0]
  rw[show(!(a==0))=false by simp[h0]] at c0
  exact fin (Vr (X4 rfl (Nat.le_of_ble_eq_true rfl) rfl) (Vr (X4 esq (Nat.le_of_ble_eq_true rfl) rfl) (Vr (X4 rfl (Nat.le_of_ble_eq_true rfl) rfl) (Vr (X4 (d:=.int (T+1)) rfl (Nat.le_of_ble_eq_true rfl) rfl) (Vr (X4 rfl (Nat.le_of_ble_eq_true rfl) rfl) (Zky c0 rfl))))))
 ·rw[if_neg h0]
  rw[show(!(a==0))=true by simp[h0]] at c0
  have hn:0<(a.natAbs:Int):=by lia
  have sa:sm (a.natAbs:Int)=true:=Yi (x:=(a.natAbs:Int)) (k:=12) (by rw[Int.natAbs_natCast];exact ha.top) (by decide)
  have hh:Nn (DL.tB (Zl Gh 2[0]! ↑0)) ↑1 (E7 Wz ↑1) [none,Io (nD n m),Io (nD a b),Jo T,none,none]=.ok (.int (sg a)):=by
   unfold sg
   by_cases hp:a > 0
   ·rw[if_pos hp];exact Vn (Qg (Zk (Z0 rfl rfl (Yt _ _)) rfl (Cu hp))) rfl
   ·rw[if_neg hp];exact V6 (Qg (Zk (Z0 rfl rfl (Yt _ _)) rfl (F2 hp))) rfl
  have dT:(T/(a.natAbs:Int)).natAbs<=10 ^ 54:=Nat.le_trans (Int.natAbs_ediv_le_natAbs _ _) hT
  have el:Zl Qb 2[1]! (Zl Yb (Zd 3) (J2 Wy (Zb 2[0]! Zh))) [none,Io (nD n m),Io (nD a b),Jo T,none,none]=.ok (.int (Wp a b T)):=
   Zk (Z0 rfl rfl (Xi _ _ _)) (Zk rfl (Xd (Law.a1 (Z0 rfl rfl (Yt _ _))) (S0 a)) (Ci hn sa)) (gT (Yi ha.bot (by decide)) (Yi dT (by decide)))
  have lb:(Wp a b T).natAbs<=10 ^ 66:=Q4 (j:=12) (k:=54) ha.bot dT
  have em:Zl Qa 1[0]! 1[1]! [none,Io (nD n m),Io (nD a b),Jo T,none,none]=.ok (.int (n%m)):=Zk (Z0 rfl rfl (Yt _ _)) (Z0 rfl rfl (Xi _ _ _)) (gM hm.pos)
  have dm:(Wp a b T/m).natAbs<=10 ^ 66:=Nat.le_trans (Int.natAbs_ediv_le_natAbs _ _) lb
  have e5:∀r:Q2,r.lookup ("heading":Str)=some (D.int (sg a))->Zep (gB (C9 Gh (U2 "heading") (Km ↑0))) (Km (Zl DL.Jv 1[1]! (Zd 4))) (Km (Zd 4)) [none,Io (nD n m),Io (nD a b),Jo T,Jo (n%m),none] r=.ok (.int (Yl n m a)):=fun r hr=>by
   have hg:U2 "heading" [none,Io (nD n m),Io (nD a b),Jo T,Jo (n%m),none] r=.ok (.int (sg a)):=by unfold U2;rw[hr]
   have hc:gB (C9 Gh (U2 "heading") (Km ↑0)) [none,Io (nD n m),Io (nD a b),Jo T,Jo (n%m),none] r=.ok (decide (0<sg a)):=by
    unfold gB C9
    rw[hg]
    rfl
   unfold Zep Yl
   rw[hc]
   unfold sg
   by_cases hp:a > 0
   ·rw[if_pos hp,if_pos hp]
    show Zl DL.Jv 1[1]! (Zd 4) [none,Io (nD n m),Io (nD a b),Jo T,Jo (n%m),none]=_
    exact Zk (Z0 rfl rfl (Xi _ _ _)) rfl rfl
   ·rw[if_neg hp,if_neg hp]
    rfl
  have lo:(Yl n m a).natAbs<=10 ^ 21:=by
   have h1:=Int.emod_nonneg n (show m≠0 by have:=hm.pos;lia)
   have h2:=Int.emod_lt_of_pos n hm.pos
   have h3:=hm.bot
   have h4:(10:Nat) ^ 21=10*10 ^ 20:=rfl
   unfold Yl
   split<;>lia
  have e6:∀r:Q2,r.lookup ("lap":Str)=some (D.int (Wp a b T))->C9 Qb (Km (Zd 5)) (C9 Yb (U2 "lap") (Km 1[1]!)) [none,Io (nD n m),Io (nD a b),Jo T,Jo (n%m),Jo (Yl n m a)] r=.ok (.int (Yl n m a*(Wp a b T/m))):=fun r hr=>by
   have hg:U2 "lap" [none,Io (nD n m),Io (nD a b),Jo T,Jo (n%m),Jo (Yl n m a)] r=.ok (.int (Wp a b T)):=by unfold U2;rw[hr]
   have h2:Km 1[1]! [none,Io (nD n m),Io (nD a b),Jo T,Jo (n%m),Jo (Yl n m a)] r=.ok (.int m):=Z0 rfl rfl (Xi _ _ _)
   have h3:C9 Yb (U2 "lap") (Km 1[1]!) [none,Io (nD n m),Io (nD a b),Jo T,Jo (n%m),Jo (Yl n m a)] r=.ok (.int (Wp a b T/m)):=by
    unfold C9
    rw[hg,M.bind_ok,h2,M.bind_ok]
    exact Ci hm.pos sm'
   unfold C9 at h3 ⊢
   rw[h3]
   exact gT (Yi lo (by decide)) (Yi dm (by decide))
  exact fin (Vr (X4 rfl (Nat.le_of_ble_eq_true rfl) rfl) (Vr (X4 esq (Nat.le_of_ble_eq_true rfl) rfl) (Vr (X4 rfl (Nat.le_of_ble_eq_true rfl) rfl) (Vr (X4 (d:=.int (T+1)) rfl (Nat.le_of_ble_eq_true rfl) rfl) (Vr (X4 rfl (Nat.le_of_ble_eq_true rfl) rfl) (Zkx c0 (Vr (X4 hh (Nat.le_of_ble_eq_true rfl) rfl) (Vr (X4 el (Nat.le_of_ble_eq_true rfl) rfl) (Vr (F8 em) (Vr (F8 (e5 _ rfl)) (X4 (e6 _ rfl) (Nat.le_of_ble_eq_true rfl) rfl)))))))))))
section
variable {z:Nat}{n m a b T:Int}
def Bw (h:a=0):Uw n m a b T=⟨n,m,n/m,0,T+1,0⟩:=if_pos h
def S8 {k:Int}(h:a≠0)(hm:0<m)(hT:T=m*a.natAbs*k):Uw n m a b T=⟨n,m,n/m,sg a,Yl n m a*(b*k),b*(m*k)⟩:=by
 have e1:T/(a.natAbs:Int)=m*k:=by
  rw[hT,show m*(a.natAbs:Int)*k=m*k*a.natAbs by grind]
  exact Int.mul_ediv_cancel _ (by lia)
 have e2:Wp a b T=b*(m*k):=by unfold Wp;rw[e1]
 have e3:b*(m*k)/m=b*k:=by
  rw[show b*(m*k)=b*k*m by grind]
  exact Int.mul_ediv_cancel _ (by lia)
 unfold Uw
 rw[if_neg h,e2,e3]
def Bx (hp:PB z n m):0<Yl n m a/\Yl n m a<m:=by
 have hm:=hp.fr.pos
 have h1:=Int.emod_nonneg n (show m≠0 by lia)
 have h2:=Int.emod_lt_of_pos n hm
 have h3:=Int.mul_ediv_add_emod n m
 have h4:=hp.nw (n/m)
 rw[Int.mul_comm] at h4
 unfold Yl
 split<;>lia
def Pm (h:a≠0):(sg a=1/\0<a)\/(sg a = -1/\a<0):=by
 unfold sg
 split<;>lia
def Zgg (hp:PB z n m)(z8:z<=8)(hT:0<T)(hb:0<b)(hd:a≠0->∃k,0<k/\T=m*a.natAbs*k):TI z T 0 (Uw n m a b T):=by
 have hm:=hp.fr.pos
 have q0:0<=n/m:=Int.ediv_nonneg (Int.le_of_lt hp.p0) (Int.le_of_lt hm)
 have q1:n/m<z:=(Int.ediv_lt_iff_lt_mul hm).mpr hp.p1
 by_cases h:a=0
 ·rw[Bw h]
  exact⟨hp,z8,q0,q1,Int.le_refl _,.inl ⟨rfl,rfl,rfl⟩⟩
 ·obtain⟨k,k0,e⟩:=hd h
  rw[S8 h hm e]
  obtain⟨l0,l1⟩:=Bx (a:=a) hp
  have bk:0<b*k:=Int.mul_pos hb k0
  have lp:0<b*(m*k):=Int.mul_pos hb (Int.mul_pos hm k0)
  refine⟨hp,z8,q0,q1,Int.le_of_lt lp,.inr ⟨?_,lp,Int.mul_pos l0 bk,?_⟩⟩
  ·show sg a=1\/sg a = -1
   rcases Pm h with⟨q,_⟩|⟨q,_⟩
   ·exact .inl q
   ·exact .inr q
  ·show Yl n m a*(b*k)<=0+b*(m*k)
   have:=Int.mul_le_mul_of_nonneg_right (Int.le_of_lt l1) (Int.le_of_lt bk)
   rw[show b*(m*k)=m*(b*k) by grind]
   lia
def Zmw (a:Int):Int:=if a=0 then 1 else a.natAbs
def Ziv:(Uw n m a b T).h*Zmw a=a:=by
 unfold Zmw
 by_cases h:a=0
 ·rw[Bw h,if_pos h,h];rfl
 ·rw[if_neg h]
  unfold Uw
  rw[if_neg h]
  show sg a*_=_
  rcases Pm h with⟨q,r⟩|⟨q,r⟩<;>rw[q]<;>lia
def Cz (hp:PB z n m)(hb:0<b)(hd:a≠0->∃k,0<k/\T=m*a.natAbs*k):place (Uw n m a b T) 0=nD n m:=by
 have hm:=hp.fr.pos
 by_cases h:a=0
 ·rw[Bw h];rfl
 ·obtain⟨k,k0,e⟩:=hd h
  rw[S8 h hm e]
  have lp:0<b*(m*k):=Int.mul_pos hb (Int.mul_pos hm k0)
  have h3:=Int.mul_ediv_add_emod n m
  unfold place
  have hs:sg a≠0:=by rcases Pm h with⟨q,_⟩|⟨q,_⟩<;>lia
  dsimp only
  rw[if_neg hs,<-S4 hm hp.g]
  refine V8 lp hm ?_
  unfold Tk.line Yn Yl
  dsimp only
  rcases Pm h with⟨q,r⟩|⟨q,r⟩
  ·rw[q,if_pos (by decide),if_pos (show a > 0 from r)]
   have:(n/m+1)*m-(m-n%m)=n:=by grind
   grind
  ·rw[q,if_neg (by decide),if_neg (show ¬a > 0 by lia)]
   have:n/m*m+n%m=n:=by grind
   grind
def Zcz (hp:PB z n m)(hb:0<b)(hl:(a.natAbs:Int)<=1100*b)(hd:a≠0->∃k,0<k/\T=m*a.natAbs*k):T<(Uw n m a b T).due+(1100:Nat)*(Uw n m a b T).lap:=by
 have hm:=hp.fr.pos
 by_cases h:a=0
 ·rw[Bw h]
  show T<T+1+(1100:Nat)*0
  lia
 ·obtain⟨k,k0,e⟩:=hd h
  rw[S8 h hm e]
  obtain⟨l0,l1⟩:=Bx (a:=a) hp
  show T<Yl n m a*(b*k)+(1100:Nat)*(b*(m*k))
  have h1:=Int.mul_pos l0 (Int.mul_pos hb k0)
  have mk:0<m*k:=Int.mul_pos hm k0
  have h2:=Int.mul_le_mul_of_nonneg_right hl (Int.le_of_lt mk)
  have e1:T=a.natAbs*(m*k):=by rw[e];grind
  have e2:((1100:Nat):Int)*(b*(m*k))=1100*b*(m*k):=by grind
  rw[e2]
  lia
end
def look:M1->List Yo->List D
 |[],_=>[]
 |(k,l)::r,ks=>if k=ks then l else look r ks
def O0 (q:M1)(ks:List Yo):Y3 (qD q) ks=some (.lst (look q ks))\/(Y3 (qD q) ks=none/\look q ks=[]):=by
 induction q with
 |nil=>exact .inr ⟨rfl,rfl⟩
 |cons kl r ih=>
  obtain⟨k,l⟩:=kl
  have e:look ((k,l)::r) ks=if k=ks then l else look r ks:=rfl
  rw[e]
  unfold Y3 qD at *
  rw[List.map_cons,List.find?_cons]
  by_cases h:k=ks
  ·rw[decide_eq_true h,if_pos h]
   exact .inl rfl
  ·rw[decide_eq_false h,if_neg h]
   exact ih
theorem C0 (ks ks':List Yo)(p:D):∀q:M1,look (U3 ks p q) ks'=if ks=ks' then look q ks'++[p] else look q ks'
 |[]=>by
  unfold U3 look
  split
  ·rfl
  ·rfl
 |(k,l)::r=>by
  unfold U3
  by_cases h:k=ks
  ·rw[if_pos h]
   subst h
   unfold look
   by_cases h':k=ks'
   ·rw[if_pos h',if_pos h',if_pos h']
   ·rw[if_neg h',if_neg h',if_neg h']
  ·rw[if_neg h]
   unfold look
   rw[C0 ks ks' p r]
   by_cases h':k=ks'
   ·rw[if_pos h',if_pos h',if_neg (fun z=>h (h'.trans z.symm))]
   ·rw[if_neg h',if_neg h']
def Ziw {p:Po4}(hp:PoOk 4 p):Fq p.D=some [.inl (p.a/p.b),.inl (p.c/p.d)]:=by
 have e:∀{x y:Int},Fr 4 x y->Y4 [nD x y]=.ok (.im (.int (x/y))):=fun h=>
  (Ze4 _ _ _).trans (Z6 (Z4 (Zk (Z0 rfl rfl (Yt _ _)) (Z0 rfl rfl (Xi _ _ _)) (Ci h.pos (Yi h.bot (by decide))))))
 have h:Zlf [none,none,none,Io p.D,none]=.ok (.tup [.int (p.a/p.b),.int (p.c/p.d)]):=Kc (Zt (Law.a1 (Z0 rfl rfl (Yt _ _))) (e hp.x) rfl) (Zt (Law.a1 (Z0 rfl rfl (Xi _ _ _))) (e hp.y) rfl)
 unfold Fq
 rw[h]
 rfl
theorem Zkz:∀(ps:List Po4) (acc:M1),(∀p∈ps,PoOk 4 p)->∃q,Zb5 acc (ps.map Po4.D)=some q/\∀x y:Int,look q [.inl x,.inl y]=look acc [.inl x,.inl y]++(ps.filter (Ow x y)).map Po4.D
 |[],acc,_=>⟨acc,rfl,fun _ _=>by simp⟩
 |p::ps,acc,h=>by
  obtain⟨q,e1,e2⟩:=Zkz ps (U3 [.inl (p.a/p.b),.inl (p.c/p.d)] p.D acc) (fun r hr=>h r (List.mem_cons_of_mem _ hr))
  refine⟨q,?_,fun x y=>?_⟩
  ·rw[List.map_cons]
   unfold Zb5
   rw[Ziw (h p (List.mem_cons_self ..))]
   exact e1
  ·rw[e2,C0]
   by_cases hs:Ow x y p=true
   ·have hs':=of_decide_eq_true hs
    rw[if_pos (by rw[hs'.1,hs'.2]),List.filter_cons_of_pos hs,List.map_cons,List.append_assoc]
    rfl
   ·have hs':¬(p.a/p.b=x/\p.c/p.d=y):=of_decide_eq_false (Bool.eq_false_iff.mpr hs)
    rw[if_neg (fun z=>hs' (by injection z with z1 z2;injection z1 with z1;injection z2 with z2 _;injection z2 with z2;exact⟨z1,z2⟩)),List.filter_cons_of_neg hs]
def Zix {ps:List Po4}{q:M1}(h:∀x y:Int,look q [.inl x,.inl y]=look [] [.inl x,.inl y]++(ps.filter (Ow x y)).map Po4.D)(x y:Int):Zcq (qD q) x y (ps.filter (Ow x y)):=by
 have e:=h x y
 rcases O0 q [.inl x,.inl y] with k|⟨k1,k2⟩
 ·rw[e] at k
  exact .inl k
 ·refine .inr ⟨k1,?_⟩
  rw[k2] at e
  have:=e.symm
  exact List.map_eq_nil_iff.mp this
section
variable {z:Nat}{TA TB TC N now a b a3 b3 n3 m3 k3:Int}{t t':Tk}
def Pd {a b c d:Int}(h:nD a b=nD c d):a=c/\b=d:=by
 unfold nD at h
 injection h with h
 injection h with h1 h
 injection h1 with h1
 injection h with h2 h
 injection h2 with h2
 exact⟨h1,h2⟩
def F9 {p q:Int}(q0:0<q)(g:Int.gcd p q=1){c:Int}(e:p=c*q):q=1:=by
 have h1:q ∣ p:=⟨c,by rw[e,Int.mul_comm]⟩
 have h2:=Int.dvd_coe_gcd h1 (Int.dvd_refl q)
 rw[g] at h2
 have:=Int.le_of_dvd (by decide) h2
 lia
def C1 {n m q:Int}(hm:0<m)(a:q*m<=n)(b:n<(q+1)*m):n/m=q/\n%m=n-q*m:=by
 have h1:n/m=q:=by
  have g1:q<=n/m:=(Int.le_ediv_iff_mul_le hm).mpr a
  have g2:n/m<q+1:=(Int.ediv_lt_iff_lt_mul hm).mpr b
  lia
 have:=Int.mul_ediv_add_emod n m
 rw[h1,Int.mul_comm] at this
 exact⟨h1,by lia⟩
end
def Zml {gt:D->Zi->M Zi}{fe:Zi->M D}{sd0 s0 s1:Zi}{d0 d1 r0 r1:D}(h1:gt d0 sd0=.ok s0)(h2:fe s0=.ok r0)(h3:gt d1 sd0=.ok s1)(h4:fe s1=.ok r1):W4 gt fe sd0 [d0,d1]=.ok [r0,r1]:=by
 simp only[W4,h1,h2,h3,h4]
def U4 (d:D):Prop:=∃a b c e,d=.tup [nD a b,nD c e]/\Fr 93 a b/\Int.gcd a b=1/\Fr 93 c e/\Int.gcd c e=1
def C2 {d:D}(h:U4 d):d.dep<=10:=by
 obtain⟨a,b,c,e,rfl,_⟩:=h
 simp[nD,D.dep,D.deps]
def Zc0 {a b:Int}(h:Fr 93 a b)(g:Int.gcd a b=1):J3 [nD a b]=.ok (.im (.bl true)):=by
 have e:=Lx h (by decide)
 rw[S4 h.pos g] at e
 have st:∀(x:Int) (v:Option S),(Xw (DL.tO (DL.tN (DL.tB (O4 "int" (Zd 1)))) (DL.tB (O4 "bool" (Zd 1)))) (Qr (eC (.bl false))) Q3) [Io (nD a b),Jo x]=.ok (.nx [Io (nD a b),Jo x]):=fun x v=>Z2 (Lw (Sx rfl) rfl)
 refine(Ze4 _ _ _).trans (Z6 (go (Z2 (Lw (Sx rfl) (Qg (Zk (x:=.int 2) (Xd (Law.a1 rfl) rfl) rfl (by rw[V7 (by simp[D.dep])];rfl))))) (go ((Ys (ds:=[.int a,.int b]) (Cj rfl)).trans ((Ye rfl (st a none)).trans ((Ye rfl (st b none)).trans rfl))) (Z4 (Zcb (b:=true) (Zk (Z0 rfl rfl (Xi _ _ _)) rfl (Cu h.pos)) (Zk (Zt (aC (Z0 rfl rfl (Yt _ _)) (Law.a1 (Z0 rfl rfl (Xi _ _ _)))) e rfl) rfl (by rw[Kg (Br _ _),D.eq_refl])))))))
def Zgh {d:D}(h:U4 d):Y7 [d]=.ok (.im (.bl true)):=by
 obtain⟨a,b,c,e,rfl,h1,g1,h2,g2⟩:=h
 refine(Ze4 _ _ _).trans (Z6 (Z4 (Bn rfl (Bn (Zk (x:=.int 2) (Xd (Law.a1 rfl) rfl) rfl (by rw[Q5];rfl)) (Xd (Law.a1 (Ee (Nf (ds:=[nD a b,nD c e]) (Cj rfl) (by simp) (Zml rfl (Zt (Law.a1 rfl) (Zc0 h1 g1) rfl) rfl (Zt (Law.a1 rfl) (Zc0 h2 g2) rfl))))) rfl)))))
def Zfo {wd:Str}{pt:D}{tn:List D}(h:U4 pt)(ht:∀x∈tn,U4 x)(hl:tn.length<=1000):Vm [.tup [.str wd,pt,.lst tn]]=.ok (.im (.bl true)):=by
 have em:W4 (Xf 0) (Zv Y7 (Zb (Zd 0) Zh)) (U0 1 [] [Io (.tup [.str wd,pt,.lst tn])]) tn=.ok (tn.map fun _=>.bl true):=by
  have:=Zcc (gt:=Xf 0) (fe:=Zv Y7 (Zb (Zd 0) Zh)) (sd0:=U0 1 [] [Io (.tup [.str wd,pt,.lst tn])]) (fun d=>d) (fun _=>D.bl true) tn fun d hd=>⟨_,rfl,Zt (Law.a1 rfl) (Zgh (ht d hd)) rfl⟩
  rwa[List.map_id'] at this
 refine(Ze4 _ _ _).trans (Z6 (go (Z2 (Lw (Sx rfl) (Lw (Qg (Zk (x:=.int 3) (Xd (Law.a1 rfl) rfl) rfl (by rw[V7 (by simp[D.dep])];rfl))) (Sx ?_)))) (go (Z2 (Lw (Sx (Qg (Zt (Law.a1 (Z0 rfl rfl (Xi _ _ _))) (Zgh h) rfl))) (Sx ?_))) (Z4 (Xd (Law.a1 (Ee (Nf (Sz (Z0 rfl rfl (Os _ _ _ _))) (by lia) em))) (Zce tn))))))
 ·have e:Zl Yu (Zd 0) ↑0 [Io (.tup [.str wd,pt,.lst tn])]=.ok (.str wd):=Z0 rfl rfl (Yt _ _)
  refine Qg ?_
  show(Zl Yu (Zd 0) ↑0 [Io (.tup [.str wd,pt,.lst tn])]).bind _=_
  rw[e]
  rfl
 ·have e:Zl Yu (Zd 0) ↑2 [Io (.tup [.str wd,pt,.lst tn])]=.ok (.lst tn):=Z0 rfl rfl (Os _ _ _ _)
  refine Qg ?_
  show(Zl Yu (Zd 0) ↑2 [Io (.tup [.str wd,pt,.lst tn])]).bind _=_
  rw[e]
  rfl
section
variable {W H z:Nat}{T now:Int}{t u:Tk}{ss:List Sd}{ps:List Po4}{most:Nat}
def C3 (h:TI z T now t)(l1:t.lap<=Ke)(n0:0<=now)(n1:now<T)(t1:T<=Ke){w:Int}(w0:0<=w)(w1:w<=T):∃a b,place t w=nD a b/\Fr 93 a b/\Int.gcd a b=1:=by
 unfold place
 by_cases hh:t.h=0
 ·rw[if_pos hh]
  exact⟨_,_,rfl,h.pn.fr.mono (by decide),h.pn.g⟩
 ·rw[if_neg hh]
  have tb:=h.tb l1 n0 n1 t1
  have hl:0<t.lap:=by rcases h.mv with q|q;exact absurd q.1 hh;exact q.2.1
  have bg:=Bu
  have b1:(t.line*t.lap).natAbs<=10 ^ (56+56):=Q4 tb.li tb.lap
  have bd:(t.due-w).natAbs<=10 ^ 56:=by
   rw[S6]
   rcases h.mv with q|⟨_,_,q1,q2⟩
   ·exact absurd q.1 hh
   ·lia
  obtain⟨p,q,e,q0,_,g,_,_⟩:=Xv (t:=t.line*t.lap-t.h*(t.due-w)) (b:=t.lap) hl
  have hline:=h.line
  have z8:=h.z8
  have f:Fr 93 (t.line*t.lap-t.h*(t.due-w)) t.lap:=by
   have eb:(10:Nat) ^ 93=10 ^ 39*Ke:=rfl
   have e39:(1000:Nat)<=10 ^ 39:=by decide
   have k1:1000*Ke<=10 ^ 93:=by rw[eb];exact Nat.mul_le_mul_right _ e39
   have k2:t.line*t.lap<=8*t.lap:=Int.mul_le_mul_of_nonneg_right (by lia) (Int.le_of_lt hl)
   have k3:0<=t.line*t.lap:=Int.mul_nonneg hline.1 (Int.le_of_lt hl)
   rw[S6] at bd
   refine⟨hl,?_,by lia⟩
   rcases h.mv with q|⟨q1,_⟩
   ·exact absurd q.1 hh
   ·rcases q1 with q1|q1<;>rw[q1]<;>lia
  obtain⟨p',q',e1,f1,_,g1⟩:=Bp f
  exact⟨p',q',e1,f1,g1⟩
def L6 (wi:WS W H T now t u)(lx:t.lap<=Ke)(ly:u.lap<=Ke)(t1:T<=Ke):U4 (Yh t u (Zp t u T)):=by
 obtain⟨w0,w1,w2,w3⟩:=wi.nxt
 have n0:=wi.n0
 obtain⟨p,q,e1,f1,g1⟩:=C3 wi.x lx n0 wi.n1 t1 (show 0<=Zp t u T by lia) w1
 obtain⟨p',q',e2,f2,g2⟩:=C3 wi.y ly n0 wi.n1 t1 (show 0<=Zp t u T by lia) w1
 refine⟨p,q,p',q',?_,f1,g1,f2,g2⟩
 unfold Yh
 rw[e1,e2]
theorem C4 {c:Po4->Option (Int×Int)}:∀(ps:List Po4) (s:Fz),(∀p xy,s=some (p,xy)->p∈ps\/∃q,s=some q)->∀p xy,ps.foldl (Xe c) s=some (p,xy)->p∈ps\/∃xy',s=some (p,xy')
 |[],s,_,p,xy,h=>.inr ⟨xy,h⟩
 |q::ps,s,_,p,xy,h=>by
  rw[List.foldl_cons] at h
  rcases C4 ps (Xe c s q) (fun _ _ z=>.inr ⟨_,z⟩) p xy h with k|⟨xy',k⟩
  ·exact .inl (List.mem_cons_of_mem _ k)
  ·unfold Xe at k
   split at k
   ·exact .inr ⟨_,k⟩
   ·split at k
    ·cases k;exact .inl (List.mem_cons_self ..)
    ·split at k
     ·cases k;exact .inl (List.mem_cons_self ..)
     ·exact .inr ⟨_,k⟩
def PtOk.is {p:Po4}(h:PtOk W H p):U4 p.D:=⟨_,_,_,_,rfl,h.x.fr.mono (by decide),h.x.g,h.y.fr.mono (by decide),h.y.g⟩
theorem Zgi (hp:∀p∈ps,PtOk W H p)(t1:T<=Ke):∀(n:Nat) (t u:Tk) (tn:List D) (now:Int) (d:D),WS W H T now t u->t.lap<=Ke->u.lap<=Ke->(∀x∈tn,U4 x)->tn.length<=most->wk W H ss ps T most n t u tn=some d->∃wd pt tn',d=.tup [.str wd,pt,.lst tn']/\U4 pt/\(∀x∈tn',U4 x)/\tn'.length<=most
 |0,_,_,_,_,_,_,_,_,_,_,h=>by cases h
 |n+1,t,u,tn,now,d,wi,lx,ly,ht,hl,h=>by
  unfold wk at h
  cases ha:Vq ps T t u with
  |some x=>
   obtain⟨p,xy⟩:=x
   rw[ha] at h
   cases h
   refine⟨_,_,_,rfl,?_,ht,hl⟩
   unfold Vq at ha
   rcases C4 _ none (fun _ _ z=>by cases z) p xy ha with k|⟨_,k⟩
   ·exact(hp p (List.mem_filter.mp k).1).is
   ·cases k
  |none=>
   rw[ha] at h
   dsimp only at h
   cases hw:Ji (thing W H ss t u (Zp t u T)) (decide (Zp t u T=T)) (decide (tn.length<most)) with
   |some w=>
    rw[hw] at h
    cases h
    exact⟨_,_,_,rfl,L6 wi lx ly t1,ht,hl⟩
   |none=>
    rw[hw] at h
    dsimp only at h
    refine Zgi hp t1 n _ _ _ _ d (wi.step hw) (by rw[Jc];exact lx) (by rw[Jc];exact ly) ?_ ?_ h
    ·split
     ·intro x hx
      rcases List.mem_append.mp hx with k|k
      ·exact ht x k
      ·rw[List.mem_singleton.mp k];exact L6 wi lx ly t1
     ·exact ht
    ·split
     ·rename_i hmir
      obtain⟨_,w2⟩:=V9 hw
      rcases w2 with w2|⟨_,w2⟩
      ·rw[w2] at hmir;cases hmir
      ·have:=of_decide_eq_true w2
       rw[List.length_append,List.length_singleton]
       lia
     ·exact hl
end
structure St (W H:Nat) (p:Po4):Prop where
 x:PB W p.a p.b
 y:PB H p.c p.d
 bx:p.b.natAbs<=10 ^ 15
 by':p.d.natAbs<=10 ^ 15
def PtOk.st {W H:Nat}{p:Po4}(h:PtOk W H p):St W H p:=⟨h.x.pb,h.y.pb,Nat.le_trans h.x.fr.bot (Vx (by decide)),Nat.le_trans h.y.fr.bot (Vx (by decide))⟩
def C5 {W H:Nat}(hW:W<=8)(hH:H<=8){ss:List Sd}(hl:ss.length<=400){ps:List Po4}(hp:∀p∈ps,PtOk W H p)(hps:ps.length<=1000){p s:Po4}(ho:St W H p)(hs:StOk s){most:Nat}(hm:most<=1000):
  ∃d,F_walk [Qt W H ss,.lst (ps.map Po4.D),p.D,s.D,.int most]=.ok (.im d)/\wk W H ss ps (wT p s) most 2201 (Uw p.a p.b s.a s.b (wT p s)) (Uw p.c p.d s.c s.d (wT p s)) []=some d/\WS W H (wT p s) 0 (Uw p.a p.b s.a s.b (wT p s)) (Uw p.c p.d s.c s.d (wT p s)) /\
   (s.a≠0->wT p s=p.b*s.a.natAbs*(p.d*m1 s.c))/\(s.c≠0->wT p s=p.d*s.c.natAbs*(p.b*m1 s.a))/\0<wT p s/\∃wd pt tn,d=.tup [.str wd,pt,.lst tn]/\U4 pt/\(∀x∈tn,U4 x)/\tn.length<=most:=by
 have px:=ho.x.fr.pos
 have py:=ho.y.fr.pos
 obtain⟨m0,m1'⟩:=L4 s.a
 obtain⟨m2,m3⟩:=L4 s.c
 have ew:wT p s=1*p.b*m1 s.a*p.d*m1 s.c:=rfl
 have tp:0<wT p s:=by rw[ew,Int.one_mul];exact Int.mul_pos (Int.mul_pos (Int.mul_pos px m0) py) m2
 have tb:(wT p s).natAbs<=10 ^ 54:=by
  rw[ew,Int.one_mul]
  exact Q4 (j:=42) (k:=12) (Q4 (j:=27) (k:=15) (Q4 (j:=15) (k:=12) ho.bx (L5 hs.x.top)) ho.by') (L5 hs.y.top)
 have eX:s.a≠0->wT p s=p.b*s.a.natAbs*(p.d*m1 s.c):=fun h=>by rw[ew,m1' h];grind
 have eY:s.c≠0->wT p s=p.d*s.c.natAbs*(p.b*m1 s.a):=fun h=>by rw[ew,m3 h];grind
 have dx:s.a≠0->∃k,0<k/\wT p s=p.b*s.a.natAbs*k:=fun h=>⟨p.d*m1 s.c,Int.mul_pos py m2,eX h⟩
 have dy:s.c≠0->∃k,0<k/\wT p s=p.d*s.c.natAbs*k:=fun h=>⟨p.b*m1 s.a,Int.mul_pos px m0,eY h⟩
 have t54:wT p s<=Ke:=by have:(10:Nat) ^ 54=Ke:=rfl;lia
 have lx:(Uw p.a p.b s.a s.b (wT p s)).lap<=Ke:=by
  by_cases h:s.a=0
  ·rw[Bw h];show(0:Int)<=_;exact Int.natCast_nonneg _
  ·rw[S8 h px (eX h)]
   show s.b*(p.b*(p.d*m1 s.c))<=_
   have:(s.b*(p.b*(p.d*m1 s.c))).natAbs<=10 ^ (12+(15+(15+12))):=Q4 hs.x.bot (Q4 ho.bx (Q4 ho.by' (L5 hs.y.top)))
   have e:(10:Nat) ^ (12+(15+(15+12)))=Ke:=rfl
   lia
 have ly:(Uw p.c p.d s.c s.d (wT p s)).lap<=Ke:=by
  by_cases h:s.c=0
  ·rw[Bw h];show(0:Int)<=_;exact Int.natCast_nonneg _
  ·rw[S8 h py (eY h)]
   show s.d*(p.d*(p.b*m1 s.a))<=_
   have:(s.d*(p.d*(p.b*m1 s.a))).natAbs<=10 ^ (12+(15+(15+12))):=Q4 hs.y.bot (Q4 ho.by' (Q4 ho.bx (L5 hs.x.top)))
   have e:(10:Nat) ^ (12+(15+(15+12)))=Ke:=rfl
   lia
 have ef:=@Zfn p s ⟨ho.x.fr.mono (by decide),ho.y.fr.mono (by decide)⟩ hs
 generalize hT:wT p s=T at *
 have tx:=Zgg (T:=T) ho.x hW tp hs.x.pos dx
 have ty:=Zgg (T:=T) ho.y hH tp hs.y.pos dy
 have h1:(Uw p.a p.b s.a s.b T).h≠0\/(Uw p.c p.d s.c s.d T).h≠0:=by
  have e1:=@Ziv p.a p.b s.a s.b T
  have e2:=@Ziv p.c p.d s.c s.d T
  rcases hs.n0 with q|q
  ·exact .inl fun z=>q (by rw[<-e1,z,Int.zero_mul])
  ·exact .inr fun z=>q (by rw[<-e2,z,Int.zero_mul])
 have wi:WS W H T 0 (Uw p.a p.b s.a s.b T) (Uw p.c p.d s.c s.d T):=⟨tx,ty,h1,Int.le_refl _,tp,.inl rfl⟩
 obtain⟨d,hd⟩:=F7 (ss:=ss) (ps:=ps) (most:=most) 2201 1100 1100 _ _ [] 0 wi (Zcz ho.x hs.x.pos hs.lx dx) (Zcz ho.y hs.y.pos hs.ly dy) (by decide)
 refine⟨d,?_,hd,wi,eX,eY,tp,Zgi hp t54 2201 _ _ [] 0 d wi lx ly (fun _ z=>by cases z) (Nat.zero_le _) hd⟩
 obtain⟨q,e1,e2⟩:=Zkz ps [] fun r hr=>(hp r hr).ok
 refine Oh e1 (by rw[List.length_map];lia) fun a a1 a2=>?_
 unfold fW
 have e0:Zv Xb (Zb (Zd 0) (Zb (Zd 1) Zh)) [Io p.D,Io s.D]=.ok (.int T):=Zt (aC rfl (Law.a1 rfl)) ef rfl
 have l1:Zb 0[0]! (Zb 1[0]! (Zb (Zd 2) Zh)) [Io p.D,Io s.D,Jo T]=.ok [nD p.a p.b,nD s.a s.b,.int T]:=aC (Z0 rfl rfl (Yt _ _)) (aC (Z0 rfl rfl (Yt _ _)) (Law.a1 rfl))
 have l2:Zb 0[1]! (Zb 1[1]! (Zb (Zd 2) Zh)) [Io p.D,Io s.D,Jo T]=.ok [nD p.c p.d,nD s.c s.d,.int T]:=aC (Z0 rfl rfl (Xi _ _ _)) (aC (Z0 rfl rfl (Xi _ _ _)) (Law.a1 rfl))
 rw[e0,M.bind_ok,l1,M.bind_ok,l2,M.bind_ok,Zcy (ho.x.fr.mono (by decide)) hs.x tb,Zcy (ho.y.fr.mono (by decide)) hs.y tb]
 exact lw a a1 a2 q p.D s.D (by lia) hp (Zix e2) (by lia) t54 1000000 _ _ [] 0 _ wi lx ly (Nat.zero_le _) (Rc 2201 1000000 _ _ _ _ (by decide) hd)
theorem all_map {α:Type}{f:α->D}:∀l:List D,(∀d∈l,∃s,d=f s)->∃ss:List α,l=ss.map f
 |[],_=>⟨[],rfl⟩
 |d::l,h=>by
  obtain⟨s,rfl⟩:=h d (List.mem_cons_self ..)
  obtain⟨ss,rfl⟩:=all_map l fun e he=>h e (List.mem_cons_of_mem _ he)
  exact⟨s::ss,rfl⟩
def eD (e:Bool×Int×Int):D:=Qu e.1 e.2.1 e.2.2
def Zc1 {i:Nat}{f:Zi->M (List D)}{sd:Zi}{ds es:List D}(h:sd[i]?=some (some (.ow ds)))(hf:f sd=.ok es)(hl:ds.length+es.length<=1000):Am i f sd=.ok (.nx (sd.set i (some (.ow (ds++es))))):=by
 unfold Am
 rw[h]
 dsimp only
 rw[hf,M.bind_ok,Y8 (by rw[List.length_append];lia),if_pos rfl]
noncomputable def Zmx:Zi->M O:=Am 2 (V2 (Yg (Zb (Zd 1) Zh)) 1 [3] (Xf 0) (Qq (Zb ↑"up" (Zb (Zd 1) (Zb (Zd 0) Zh)))))
noncomputable def Zmy:Zi->M O:=Am 2 (V2 (Yg (Zb (Zd 0) Zh)) 1 [4] (Xf 0) (Qq (Zb ↑"flat" (Zb (Zd 0) (Zb (Zd 1) Zh)))))
theorem Ha (o0 v4:Option S){H:Nat}(hH:H<=5):∀(xs:List Nat) (acc:List (Bool×Int×Int)) (v3:Option S),acc.length+5*xs.length<=900->∃(acc':List (Bool×Int×Int)) (w3:Option S),acc'.length<=acc.length+5*xs.length /\
  Xa (Xf 3) Zmx (xs.map fun(k:Nat)=>D.int (k:Int)) [o0,Jo (H:Int),some (.ow (acc.map eD)),v3,v4]=.ok (.nx [o0,Jo (H:Int),some (.ow (acc'.map eD)),w3,v4])
 |[],acc,v3,_=>⟨acc,v3,by simp,rfl⟩
 |x::xs,acc,v3,hl=>by
  rw[List.length_cons] at hl
  have c:V2 (Yg (Zb (Zd 1) Zh)) 1 [3] (Xf 0) (Qq (Zb ↑"up" (Zb (Zd 1) (Zb (Zd 0) Zh)))) [o0,Jo (H:Int),some (.ow (acc.map eD)),Jo (x:Int),v4]=.ok (((List.range H).map fun(y:Nat)=>(true,(x:Int),(y:Int))).map eD):=by
   refine Nf (Zik (n:=H) (Law.a1 rfl) (by lia)) (by rw[List.length_map,List.length_range];lia) ?_
   rw[List.map_map]
   exact Zcc (fun(k:Nat)=>D.int (k:Int)) _ (List.range H) fun y _=>⟨_,rfl,Pc rfl rfl rfl⟩
  have e1:=Zc1 (i:=2) (sd:=[o0,Jo (H:Int),some (.ow (acc.map eD)),Jo (x:Int),v4]) rfl c (by simp only[List.length_map,List.length_range];lia)
  rw[<-List.map_append] at e1
  obtain⟨acc',w3,h1,h2⟩:=Ha o0 v4 hH xs (acc++(List.range H).map fun(y:Nat)=>(true,(x:Int),(y:Int))) (Jo (x:Int)) (by simp only[List.length_append,List.length_map,List.length_range];lia)
  refine⟨acc',w3,?_,(Ye rfl e1).trans h2⟩
  simp only[List.length_append,List.length_map,List.length_range,List.length_cons] at h1 ⊢
  lia
theorem Hc (o1 v3:Option S){W:Nat}(hW:W<=5):∀(xs:List Nat) (acc:List (Bool×Int×Int)) (v4:Option S),acc.length+5*xs.length<=900->∃(acc':List (Bool×Int×Int)) (w4:Option S),acc'.length<=acc.length+5*xs.length /\
  Xa (Xf 4) Zmy (xs.map fun(k:Nat)=>D.int (k:Int)) [Jo (W:Int),o1,some (.ow (acc.map eD)),v3,v4]=.ok (.nx [Jo (W:Int),o1,some (.ow (acc'.map eD)),v3,w4])
 |[],acc,v4,_=>⟨acc,v4,by simp,rfl⟩
 |y::xs,acc,v4,hl=>by
  rw[List.length_cons] at hl
  have c:V2 (Yg (Zb (Zd 0) Zh)) 1 [4] (Xf 0) (Qq (Zb ↑"flat" (Zb (Zd 0) (Zb (Zd 1) Zh)))) [Jo (W:Int),o1,some (.ow (acc.map eD)),v3,Jo (y:Int)]=.ok (((List.range W).map fun(x:Nat)=>(false,(x:Int),(y:Int))).map eD):=by
   refine Nf (Zik (n:=W) (Law.a1 rfl) (by lia)) (by rw[List.length_map,List.length_range];lia) ?_
   rw[List.map_map]
   exact Zcc (fun(k:Nat)=>D.int (k:Int)) _ (List.range W) fun y _=>⟨_,rfl,Pc rfl rfl rfl⟩
  have e1:=Zc1 (i:=2) (sd:=[Jo (W:Int),o1,some (.ow (acc.map eD)),v3,Jo (y:Int)]) rfl c (by simp only[List.length_map,List.length_range];lia)
  rw[<-List.map_append] at e1
  obtain⟨acc',w4,h1,h2⟩:=Hc o1 v3 hW xs (acc++(List.range W).map fun(x:Nat)=>(false,(x:Int),(y:Int))) (Jo (y:Int)) (by simp only[List.length_append,List.length_map,List.length_range];lia)
  refine⟨acc',w4,?_,(Ye rfl e1).trans h2⟩
  simp only[List.length_append,List.length_map,List.length_range,List.length_cons] at h1 ⊢
  lia
def He {W H:Nat}(hW:W<=5)(hH:H<=5):∃es:List (Bool×Int×Int),es.length<=60/\Kv [.int (W:Int),.int (H:Int)]=.ok (.ow (es.map eD)):=by
 obtain⟨a1,w3,h1,e1⟩:=Ha (Jo (W:Int)) none hH (List.range (W+1)) [] none (by simp;lia)
 obtain⟨a2,w4,h2,e2⟩:=Hc (Jo (H:Int)) w3 hW (List.range (H+1)) a1 none (by simp at h1 ⊢;lia)
 refine⟨a2,by simp at h1 h2;lia,(Zf9 _ _ _ _).trans (Z6 (go (X3 2 _) (go (f:=Ka (Yg (Zb (Zl Z8 (Zd 0) ↑1) Zh)) (Xf 3) Zmx) ((Ys (Zik (n:=W+1) (Law.a1 rfl) (by lia))).trans e1) (go (f:=Ka (Yg (Zb (Zl Z8 (Zd 1) ↑1) Zh)) (Xf 4) Zmy) ((Ys (Zik (n:=H+1) (Law.a1 rfl) (by lia))).trans e2) rfl))))⟩
def X5 (p:Int){m:Nat}(h:1<=m):∃k:Nat,p%(m:Int)=(k:Int)/\k<m:=by
 have q1:0<=p%(m:Int):=Int.emod_nonneg _ (by lia)
 have q2:p%(m:Int)<m:=Int.emod_lt_of_pos _ (by lia)
 exact⟨(p%(m:Int)).toNat,by lia,by lia⟩
def Zc2 (W H:Int)(u:Bool)(x y:Int):∃d,Kr [.int W,.int H,Qu u x y]=.ok (.im d)/\(d=.non\/d=.int 0\/d=.int 1):=by
 have e5:Nn (DL.tB (Zl Xg 2[0]! ↑"up")) (Qq (Zb 2[1]! (Zb (Zd 0) Zh))) (Qq (Zb 2[2]! (Zb (Zd 1) Zh))) [Jo W,Jo H,Io (.tup [kd u,.int x,.int y]),none,none]=.ok (.tup [.int (if u=true then x else y),.int (if u=true then W else H)]):=by
  cases u
  ·exact V6 (Qg (Zk (Z0 rfl rfl (Yt _ _)) rfl (by rw[Kg (by simp[kd,D.dep])];rfl))) (Kc (Z0 rfl rfl (Os _ _ _ _)) rfl)
  ·exact Vn (Qg (Zk (Z0 rfl rfl (Yt _ _)) rfl (by rw[Kg (by simp[kd,D.dep])];rfl))) (Kc (Z0 rfl rfl (Xi _ _ _)) rfl)
 generalize (if u=true then x else y)=l at *
 generalize (if u=true then W else H)=m at *
 by_cases h0:l=0
 ·exact⟨.int 0,(Zga _ _ _ _ _).trans (Z6 (go (Zcd e5) (Ya (Ql (Qg (Zk rfl rfl (by rw[Q5,h0];rfl))) (Z4 rfl))))),.inr (.inl rfl)⟩
 ·by_cases h1:l=m
  ·exact⟨.int 1,(Zga _ _ _ _ _).trans (Z6 (go (Zcd e5) (go (Z2 (Qg (Zk rfl rfl (by rw[Q5];simp[h0])))) (Z4 (Vn (Qg (Zk rfl rfl (by rw[Q5];simp[h1]))) rfl))))),.inr (.inr rfl)⟩
  ·exact⟨.non,(Zga _ _ _ _ _).trans (Z6 (go (Zcd e5) (go (Z2 (Qg (Zk rfl rfl (by rw[Q5];simp[h0])))) (Z4 (V6 (Qg (Zk rfl rfl (by rw[Q5];simp[h1]))) rfl))))),.inl rfl⟩
def Zc3:List D:=[.non,.non,.non,.non,.non,.str (Str.ofString "mm"),.str (Str.ofString "mp"),.str (Str.ofString "pm"),.str (Str.ofString "pp"),.str (Str.ofString "mm"),.non,.non]
def Zfp (k:Nat)(h:k<12):Zc3[k]?=some .non\/∃(s:Str) (f g:Bool),Zc3[k]?=some (.str s)/\Yu (.str s) (.int 0)=.ok (fc f)/\Yu (.str s) (.int 1)=.ok (fc g):=by
 match k,h with
 |0,_=>exact .inl rfl
 |1,_=>exact .inl rfl
 |2,_=>exact .inl rfl
 |3,_=>exact .inl rfl
 |4,_=>exact .inl rfl
 |5,_=>exact .inr ⟨Str.ofString "mm", true,true,rfl,rfl,rfl⟩
 |6,_=>exact .inr ⟨Str.ofString "mp", true,false,rfl,rfl,rfl⟩
 |7,_=>exact .inr ⟨Str.ofString "pm", false,true,rfl,rfl,rfl⟩
 |8,_=>exact .inr ⟨Str.ofString "pp", false,false,rfl,rfl,rfl⟩
 |9,_=>exact .inr ⟨Str.ofString "mm", true,true,rfl,rfl,rfl⟩
 |10,_=>exact .inl rfl
 |11,_=>exact .inl rfl
 |n+12,h=>lia
def Eg (u:Bool)(x y:Int)(f g:Bool):Z8 (Qu u x y) (.tup [fc f,fc g])=.ok (Sd.mk u x y f g).D:=rfl
def Ziy (W H:Int)(u:Bool)(x y n:Int):∃d,V5 [.int W,.int H,Qu u x y,.int n]=.ok (.im d)/\(d=.non\/∃s:Sd,d=s.D):=by
 obtain⟨d,ed,hd⟩:=Zc2 W H u x y
 have e4:Zv Kr (Zb (Zd 0) (Zb (Zd 1) (Zb (Zd 2) Zh))) [Jo W,Jo H,Io (Qu u x y),Jo n,none,none,none]=.ok d:=Zt (aC rfl (aC rfl (Law.a1 rfl))) ed rfl
 rcases hd with rfl|hd
 ·obtain⟨k,ek,hk⟩:=X5 n (m:=12) (by decide)
  have em:Zl Qa (Zd 3) ↑12 [Jo W,Jo H,Io (Qu u x y),Jo n,Io .non,none,none]=.ok (.int (k:Int)):=Zk rfl rfl (by rw[gM (by decide)];congr 2)
  have el:Xh (Zb (eC .non) (Zb (eC .non) (Zb (eC .non) (Zb (eC .non) (Zb (eC .non) (Zb ↑"mm" (Zb ↑"mp" (Zb ↑"pm" (Zb ↑"pp" (Zb ↑"mm" (Zb (eC .non) (Zb (eC .non) Zh)))))))))))) [Jo W,Jo H,Io (Qu u x y),Jo n,Io .non,none,none]=.ok (.lst Zc3):=Kd rfl (Y8 (by show(12:Nat)<=1000000;decide))
  have c1:DL.tB (Zl Ap (Zd 4) (eC .non)) [Jo W,Jo H,Io (Qu u x y),Jo n,Io .non,none,none]=.ok true:=rfl
  rcases Zfp k hk with hb|⟨s,f,g,hb,h0,h1⟩
  ·exact⟨.non,(Zdj _ _ _ _ _ _).trans (Z6 (go (Z1 e4) (Ya (Ql c1 (go (Z1 (Y1 el em (Xx hb))) (Z4 (Vn rfl rfl))))))),.inl rfl⟩
  ·exact⟨(Sd.mk u x y f g).D,(Zdj _ _ _ _ _ _).trans (Z6 (go (Z1 e4) (Ya (Ql c1 (go (Z1 (Y1 el em (Xx hb))) (Z4 (V6 rfl (Zk rfl (Kc (Zk rfl rfl h0) (Zk rfl rfl h1)) (Eg u x y f g))))))))),.inr ⟨_,rfl⟩⟩
 ·have c1:DL.tB (Zl Ap (Zd 4) (eC .non)) [Jo W,Jo H,Io (Qu u x y),Jo n,Io d,none,none]=.ok false:=by rcases hd with rfl|rfl<;>rfl
  have c2:∀j:Int,DL.tB (Zl Xg (Zl Qa (Zd 3) ↑9) (eC (.int j))) [Jo W,Jo H,Io (Qu u x y),Jo n,Io d,none,none]=.ok (n%9==j):=fun j=>Qg (Zk (Zk rfl rfl (gM (by decide))) rfl (Q5 _ _))
  have c7:=c2 7
  have c8:=c2 8
  cases h7:n%9==7 with
  |true=>
   rw[h7] at c7
   exact⟨.non,(Zdj _ _ _ _ _ _).trans (Z6 (go (Z1 e4) (go (Z2 c1) (Ya (Ql c7 (Z4 rfl)))))),.inl rfl⟩
  |false=>
   rw[h7] at c7
   have e6:∃f:Bool,Nn (DL.tB (Zl Xg (Zl Qa (Zd 3) ↑9) ↑8)) ↑"p" ↑"m" [Jo W,Jo H,Io (Qu u x y),Jo n,Io d,none,none]=.ok (fc f):=by
    cases h8:n%9==8 with
    |true=>rw[h8] at c8;exact⟨false,Vn c8 rfl⟩
    |false=>rw[h8] at c8;exact⟨true,V6 c8 rfl⟩
   obtain⟨f,e6⟩:=e6
   have e7:∃f1 g1:Bool,Nn (DL.tB (Zl Xg (Zd 4) ↑0)) (Qq (Zb ↑"p" (Zb (Zd 6) Zh))) (Qq (Zb (Zd 6) (Zb ↑"p" Zh))) [Jo W,Jo H,Io (Qu u x y),Jo n,Io d,none,Io (fc f)]=.ok (.tup [fc f1,fc g1]):=by
    rcases hd with rfl|rfl
    ·exact⟨false,f,Vn (Qg (Zk rfl rfl (by rw[Q5];rfl))) (Kc rfl rfl)⟩
    ·exact⟨f,false,V6 (Qg (Zk rfl rfl (by rw[Q5];rfl))) (Kc rfl rfl)⟩
   obtain⟨f1,g1,e7⟩:=e7
   exact⟨(Sd.mk u x y f1 g1).D,(Zdj _ _ _ _ _ _).trans (Z6 (go (Z1 e4) (go (Z2 c1) (go (Z2 c7) (go (Z1 e6) (Z4 (Zk rfl e7 (Eg u x y f1 g1)))))))),.inr ⟨_,rfl⟩⟩
noncomputable def hB:Zi->M O:=(Zx (Z5 7 (Zv V5 (Zb (Zd 1) (Zb (Zd 2) (Zb (Zd 5) (Zb (Zd 6) Zh))))))
   (Xw (DL.tB (Zl Xl (Zd 7) (eC .non))) (Vt 4 (Zd 7)) Q3))
def hG:D->Zi->M Zi:=K0 2 (Q0 (Xf 5) (Q0 (Xf 6) Ve))
theorem Hg:∀(es:List (Bool×Int×Int)) (ns:List Int),Aq (es.map eD) (ns.map D.int)=(es.zip ns).map fun p=>.tup [eD p.1,.int p.2]
 |[],_=>rfl
 |_::_,[]=>rfl
 |e::es,n::ns=>by
  show D.tup [eD e,.int n]::Aq (es.map eD) (ns.map D.int)=_
  rw[Hg es ns]
  rfl
theorem Eh (o0 o3:Option S)(W H:Int):∀(ps:List ((Bool×Int×Int)×Int)) (ss:List Sd) (v5 v6 v7:Option S),ss.length+ps.length<=400->∃(ss':List Sd) (w5 w6 w7:Option S),ss'.length<=ss.length+ps.length /\
  Xa hG hB (ps.map fun p=>.tup [eD p.1,.int p.2]) [o0,Jo W,Jo H,o3,some (.ow (ss.map Sd.D)),v5,v6,v7]=.ok (.nx [o0,Jo W,Jo H,o3,some (.ow (ss'.map Sd.D)),w5,w6,w7])
 |[],ss,v5,v6,v7,_=>⟨ss,v5,v6,v7,by simp,rfl⟩
 |((u,x,y),n)::ps,ss,v5,v6,v7,hl=>by
  rw[List.length_cons] at hl
  obtain⟨d,ed,hd⟩:=Ziy W H u x y n
  have e7:Zv V5 (Zb (Zd 1) (Zb (Zd 2) (Zb (Zd 5) (Zb (Zd 6) Zh)))) [o0,Jo W,Jo H,o3,some (.ow (ss.map Sd.D)),Io (Qu u x y),Jo n,v7]=.ok d:=Zt (aC rfl (aC rfl (aC rfl (Law.a1 rfl)))) ed rfl
  rcases hd with rfl|⟨s,rfl⟩
  ·obtain⟨ss',w5,w6,w7,h1,h2⟩:=Eh o0 o3 W H ps ss (Io (Qu u x y)) (Jo n) (Io .non) (by lia)
   exact⟨ss',w5,w6,w7,by rw[List.length_cons];lia,(Ye (sd1:=[o0,Jo W,Jo H,o3,some (.ow (ss.map Sd.D)),Io (Qu u x y),Jo n,v7]) rfl (go (Z1 e7) (Z2 rfl))).trans h2⟩
  ·obtain⟨ss',w5,w6,w7,h1,h2⟩:=Eh o0 o3 W H ps (ss++[s]) (Io (Qu u x y)) (Jo n) (Io s.D) (by rw[List.length_append,List.length_singleton];lia)
   rw[List.length_append,List.length_singleton] at h1
   refine⟨ss',w5,w6,w7,by rw[List.length_cons];lia,(Ye (sd1:=[o0,Jo W,Jo H,o3,some (.ow (ss.map Sd.D)),Io (Qu u x y),Jo n,v7]) rfl (go (Z1 e7) (Ql rfl (N9 rfl rfl (by rw[List.length_map];lia))))).trans ?_⟩
   rw[List.map_append] at h2
   exact h2
def Zfq (s:Sd):List V:=[.str (if s.up=true then Str.ofString "up" else Str.ofString "flat"),.int s.x,.int s.y,.str (if s.f=true then Str.ofString "m" else Str.ofString "p"),.str (if s.g=true then Str.ofString "m" else Str.ofString "p")]
theorem Hh:∀ss:List Sd,R8 (ss.map Sd.D)=some (ss.map Zfq)
 |[]=>rfl
 |s::ss=>by
  show(match some (Zfq s),R8 (ss.map Sd.D) with|some v,some vs=>some (v::vs)|_,_=>none)=_
  rw[Hh ss]
  rfl
def Ng {x y:V}{xs ys:List V}(e:∃c,Zkg x y=some c)(l:∃c,Zld x y=some c)(r:∃b,Zej xs ys=some b):∃b,Zej (x::xs) (y::ys)=some b:=by
 obtain⟨c,e⟩:=e
 unfold Zej
 rw[e]
 cases c
 ·exact l
 ·exact r
def Ziz (s t:Sd):∃b,Zej (Zfq s) (Zfq t)=some b:=Ng ⟨_,rfl⟩ ⟨_,rfl⟩ (Ng ⟨_,rfl⟩ ⟨_,rfl⟩ (Ng ⟨_,rfl⟩ ⟨_,rfl⟩ (Ng ⟨_,rfl⟩ ⟨_,rfl⟩ (Ng ⟨_,rfl⟩ ⟨_,rfl⟩ ⟨false,rfl⟩))))
def Hi (ss:List Sd)(hl:ss.length<64):∃ts:List Sd,ts.length=ss.length/\Nw [.lst (ss.map Sd.D)]=.ok (.lst (ts.map Sd.D)):=by
 obtain⟨es,hp,e⟩:=Dv (Hh ss) (by rw[List.length_map];exact hl) (by
  rw[Bool.or_eq_true]
  refine .inl (List.all_eq_true.mpr fun y hy=>?_)
  obtain⟨s,_,rfl⟩:=List.mem_map.mp hy
  rfl) (by rw[List.length_map,List.length_map]) fun x hx y hy=>by
  obtain⟨s,_,rfl⟩:=List.mem_map.mp hx
  obtain⟨t,_,rfl⟩:=List.mem_map.mp hy
  exact⟨rfl,Ziz s t⟩
 obtain⟨ts,rfl⟩:=all_map (f:=Sd.D) es fun d hd=>by
  obtain⟨s,_,rfl⟩:=List.mem_map.mp (hp.mem_iff.mp hd)
  exact⟨s,rfl⟩
 have:=hp.length_eq
 rw[List.length_map,List.length_map] at this
 exact⟨ts,this,e⟩
def Zi0 (c:Int){W H:Nat}(hW:W<=5)(hH:H<=5):∃ss:List Sd,ss.length<=400/\Na [.int c,.int (W:Int),.int (H:Int)]=.ok (.im (Qt W H ss)):=by
 obtain⟨es,le,ee⟩:=He hW hH
 obtain⟨ns,ln,_,en⟩:=Kw c es.length (by lia)
 obtain⟨ss,w5,w6,w7,h1,h2⟩:=Eh (Jo c) (Io (.lst (es.map eD))) (W:Int) (H:Int) (es.zip ns) [] none none none (by simp[List.length_zip];lia)
 have hs:ss.length<=60:=by simp[List.length_zip] at h1;lia
 have hz:Zef (Zb (Zd 3) (Zb (Zv Qd (Zb (Zd 0) (Zb (J2 V0 (Zb (Zd 3) Zh)) Zh))) Zh)) [Jo c,Jo (W:Int),Jo (H:Int),Io (.lst (es.map eD)),some (.ow []),none,none,none]=.ok ((es.zip ns).map fun p=>.tup [eD p.1,.int p.2]):=by
  unfold Zef
  rw[aC (d:=.lst (es.map eD)) rfl (Law.a1 (d:=.lst (ns.map D.int)) (Zt (aC rfl (Law.a1 (d:=.int (es.length:Int)) (Xd (Law.a1 rfl) (by rw[Pa,List.length_map])))) en rfl)),M.bind_ok]
  show M.ok (Aq (es.map eD) (ns.map D.int))=_
  rw[Hg]
 obtain⟨ts,lt,et⟩:=Hi ss (by lia)
 exact⟨ts,by lia,(Zga _ _ _ _ _).trans (Z6 (go (Z1 (Zt (aC rfl (Law.a1 rfl)) ee rfl)) (go (X3 4 _) (go (f:=Ka _ hG hB) ((Ys hz).trans h2) (Vo (Z4 (Pc rfl rfl (Xd (Law.a1 (d:=.lst (ts.map Sd.D)) (Xd (Law.a1 rfl) et)) rfl))))))))⟩
structure N1 (a b:Int):Prop where
 fr:Fr 12 a b
 g:Int.gcd a b=1
 le:(a.natAbs:Int)<=40*b
 b9:b<=1000000000
def S9 {t b:Int}(hb:0<b)(b9:b<=1000000000)(hl:(t.natAbs:Int)<=40*b):∃p q,K9 t b=nD p q/\N1 p q/\(p=0↔t=0):=by
 have e12:(10:Nat) ^ 12=1000000000000:=rfl
 have hf:Fr 12 t b:=⟨hb,by rw[e12];lia,by rw[e12];lia⟩
 obtain⟨p,q,el,q0,m,g,h3,h4⟩:=Xv (t:=t) hb
 have f:Fr 12 p q:=⟨q0,by have:=hf.top;lia,by rw[e12];lia⟩
 refine⟨p,q,el,⟨f,g,?_,by lia⟩,?_⟩
 ·have h1:(p.natAbs:Int)*b=t.natAbs*q:=by
   have:=congrArg Int.natAbs m
   rw[Int.natAbs_mul,Int.natAbs_mul] at this
   have q0:=f.pos
   rw[show b=((b.natAbs:Nat):Int) by lia,show q=((q.natAbs:Nat):Int) by lia]
   exact_mod_cast this
  have h2:=Int.mul_le_mul_of_nonneg_right hl (Int.le_of_lt f.pos)
  rw[<-h1,Int.mul_right_comm] at h2
  exact Int.le_of_mul_le_mul_right h2 hb
 ·constructor
  ·intro h;rw[h,Int.zero_mul] at m
   rcases Int.mul_eq_zero.mp m.symm with z|z
   ·exact z
   ·have:=f.pos;lia
  ·intro h;rw[h,Int.zero_mul] at m
   rcases Int.mul_eq_zero.mp m with z|z
   ·exact z
   ·lia
structure StD (s:Po4):Prop where
 x:N1 s.a s.b
 y:N1 s.c s.d
 n0:s.a≠0\/s.c≠0
def StD.ok {s:Po4}(h:StD s):StOk s:=⟨h.x.fr,h.y.fr,h.x.g,h.y.g,h.n0,by have:=h.x.le;have:=h.x.fr.pos;lia,by have:=h.y.le;have:=h.y.fr.pos;lia⟩
def Zgj {a b c d:Int}(h1:N1 a b)(h2:N1 c d)(h:a≠0\/c≠0):StD ⟨a,b,c,d⟩:=⟨h1,h2,h⟩
noncomputable def Zmz:Zi->M O:=(Zx (Z5 9 (Zl Qb ↑2 (Zl DL.Jv (Zl Qa (Zl Yu (Zd 5) (Zl Z8 ↑2 (Zd 8))) ↑13) ↑6)))
   (Zx (Ps (Zl Yu (Zd 6) (Zd 8)) (K0 2 (Q0 (Xf 10) (Q0 (Xf 11) Ve))))
   (Zx (Xw (DL.tB (Zl Xg (Zl Qa (Zl Yu (Zd 5) (Zl Z8 ↑4 (Zd 8))) ↑2) ↑1)) (Z5 10 (Zl DL.Jv ↑0 (Zd 10))) Q3)
   (Zx (Z5 10 (Zl Z8 (Zd 10) (Zl Qb (Zd 9) (Zd 11))))
   (Zx (Ps (Zl Yu (Zd 3) (Zd 8)) (K0 2 (Q0 (Xf 12) (Q0 (Xf 13) Ve))))
   (Vt 7 (Zv Qf (Zb (Zl DL.Jv (Zl Qb (Zd 10) (Zd 13)) (Zl Qb (Zd 12) (Zd 11))) (Zb (Zl Qb (Zd 11) (Zd 13)) Zh)))))))))
noncomputable def Znl:Zi->M O:=(Zx (Z5 14 (Zv Qf (Zb (Zl DL.Jv (Zl Qa 5[2]! ↑41) ↑20) (Zb (Zl Z8 ↑1 (Zl Qa 5[4]! (Zl Yu (Xh (Zb ↑1 (Zb ↑6 (Zb ↑6 (Zb ↑6 Zh))))) (Zl Qa 5[6]! ↑4)))) Zh))))
   (Zx (Z5 15 (Zv Qf (Zb (Zl DL.Jv (Zl Qa 5[3]! ↑41) ↑20) (Zb (Zl Z8 ↑1 (Zl Qa 5[5]! (Zl Yu (Xh (Zb ↑1 (Zb ↑6 (Zb ↑6 (Zb ↑6 Zh))))) (Zl Qa (Zl Yb 5[6]! ↑4) ↑4)))) Zh))))
   (Zx (Xw (DL.tB (Zl Xg (Zl Qa 5[0]! ↑4) ↑3)) (Z5 15 (Zv Qf (Zb (Zl Qb 14[0]! (Zl Yu (Xh (Zb ↑1 (Zb (E7 Wz ↑1) Zh))) (Zl Qa 5[3]! ↑2))) (Zb 14[1]! Zh)))) Q3)
   (Zx (Xw (tA (DL.tB (Zl Xg 14[0]! ↑0)) (DL.tB (Zl Xg 15[0]! ↑0))) (Qr (Qq (Zb (Qq (Zb ↑1 (Zb ↑1 Zh))) (Zb (Qq (Zb ↑0 (Zb ↑1 Zh))) Zh)))) Q3)
   (Qr (Qq (Zb (Zd 14) (Zb (Zd 15) Zh))))))))
def Hj (o0 o1 o2 o4:Option S){pt sp:D}{xs:List D}{k x2 x4 a b c d:Int}{z:Nat}(z8:z<=8)(h1:PIn z a b)(h2:PIn z c d)(e2:Yu (.lst xs) (.int (2+k))=.ok (.int x2))(e4:Yu (.lst xs) (.int (4+k))=.ok (.int x4))(es:Yu sp (.int k)=.ok (nD a b))(ep:Yu pt (.int k)=.ok (nD c d))(l:List D)(hl:l.length<=100)(v9 v10 v11 v12 v13 v14 v15:Option S):
  ∃(t q:Int) (w9 w10 w11 w12 w13:Option S),0<q/\q<=1000000/\(t.natAbs:Int)<=40*q/\Zmz [o0,o1,o2,Io pt,o4,Io (.lst xs),Io sp,some (.ow l),Jo k,v9,v10,v11,v12,v13,v14,v15] =
   .ok (.nx [o0,o1,o2,Io pt,o4,Io (.lst xs),Io sp,some (.ow (l++[K9 t q])),Jo k,w9,w10,w11,w12,w13,v14,v15]):=by
 have m0:=Int.emod_nonneg x2 (show(13:Int)≠0 by decide)
 have m1:=Int.emod_lt_of_pos x2 (show(0:Int)<13 by decide)
 have b0:=h1.fr.pos
 have d0:=h2.fr.pos
 have b3:=h1.q3
 have d3:=h2.q3
 obtain⟨far,hf,f0,f1⟩:∃far,far=2*(x2%13-6)/\-12<=far/\far<=12:=⟨_,rfl,by lia,by lia⟩
 have e9:Zl Qb ↑2 (Zl DL.Jv (Zl Qa (Zl Yu (Zd 5) (Zl Z8 ↑2 (Zd 8))) ↑13) ↑6) [o0,o1,o2,Io pt,o4,Io (.lst xs),Io sp,some (.ow l),Jo k,v9,v10,v11,v12,v13,v14,v15]=.ok (.int far):=by
  rw[hf]
  exact Zk rfl (Zk (Zk (Zk rfl (Zk rfl rfl rfl) e2) rfl (gM (by decide))) rfl rfl) (gT (B2 (by decide) (by decide)) (B2 (by lia) (by lia)))
 obtain⟨a',ha,e10⟩:∃a':Int,(a'=a\/a'=0-a)/\(Xw (DL.tB (Zl Xg (Zl Qa (Zl Yu (Zd 5) (Zl Z8 ↑4 (Zd 8))) ↑2) ↑1)) (Z5 10 (Zl DL.Jv ↑0 (Zd 10))) Q3) [o0,o1,o2,Io pt,o4,Io (.lst xs),Io sp,some (.ow l),Jo k,Jo far,Jo a,Jo b,v12,v13,v14,v15]=.ok (.nx [o0,o1,o2,Io pt,o4,Io (.lst xs),Io sp,some (.ow l),Jo k,Jo far,Jo a',Jo b,v12,v13,v14,v15]):=by
  have c:DL.tB (Zl Xg (Zl Qa (Zl Yu (Zd 5) (Zl Z8 ↑4 (Zd 8))) ↑2) ↑1) [o0,o1,o2,Io pt,o4,Io (.lst xs),Io sp,some (.ow l),Jo k,Jo far,Jo a,Jo b,v12,v13,v14,v15]=.ok (x4%2==1):=Qg (Zk (Zk (Zk rfl (Zk rfl rfl rfl) e4) rfl (gM (by decide))) rfl (Q5 _ _))
  cases hb:x4%2==1 with
  |true=>rw[hb] at c;exact⟨0-a,.inr rfl,Ql c (Z1 rfl)⟩
  |false=>rw[hb] at c;exact⟨a,.inl rfl,Z2 c⟩
 have ab:-8*b<=a'/\a'<=8*b:=by
  have p0:=h1.p0
  have p1:=h1.p1
  have:=Int.mul_le_mul_of_nonneg_right (show(z:Int)<=8 by lia) (Int.le_of_lt b0)
  rcases ha with rfl|rfl<;>lia
 have fb:-12*b<=far*b/\far*b<=12*b:=⟨Int.mul_le_mul_of_nonneg_right f0 (Int.le_of_lt b0),Int.mul_le_mul_of_nonneg_right f1 (Int.le_of_lt b0)⟩
 obtain⟨A,eA⟩:∃A,A=a'+far*b:=⟨_,rfl⟩
 have hA:-20*b<=A/\A<=20*b:=by lia
 have bd:0<b*d:=Int.mul_pos b0 d0
 have bd':b*d<=1000*1000:=Int.mul_le_mul b3 d3 (Int.le_of_lt d0) (by decide)
 have Ad:-20*b*d<=A*d/\A*d<=20*b*d:=⟨Int.mul_le_mul_of_nonneg_right hA.1 (Int.le_of_lt d0),Int.mul_le_mul_of_nonneg_right hA.2 (Int.le_of_lt d0)⟩
 have cb:0<=c*b/\c*b<=8*d*b:=by
  have p0:=h2.p0
  have p1:=h2.p1
  have:=Int.mul_le_mul_of_nonneg_right (show(z:Int)<=8 by lia) (Int.le_of_lt d0)
  exact⟨Int.mul_nonneg (Int.le_of_lt p0) (Int.le_of_lt b0),Int.mul_le_mul_of_nonneg_right (by lia) (Int.le_of_lt b0)⟩
 have q1:-20*b*d = -20*(b*d):=by grind
 have q2:20*b*d=20*(b*d):=by grind
 have q3:8*d*b=8*(b*d):=by grind
 have tl:((A*d-c*b).natAbs:Int)<=40*(b*d):=by lia
 have s6:∀{v:Int},-1000000000<=v->v<=1000000000->sm v=true:=fun h h'=>B2 h h'
 have hc:-8000<=c/\c<=8000:=by
  have p0:=h2.p0
  have p1:=h2.p1
  have:=Int.mul_le_mul_of_nonneg_right (show(z:Int)<=8 by lia) (Int.le_of_lt d0)
  lia
 have fr:Fr 12 (A*d-c*b) (b*d):=by
  have e12:(10:Nat) ^ 12=1000000000000:=rfl
  exact⟨bd,by rw[e12];lia,by rw[e12];lia⟩
 have el:=Lx fr (by decide)
 refine⟨A*d-c*b,b*d,Jo far,Jo A,Jo b,Jo c,Jo d,bd,by lia,tl,?_⟩
 refine go (Z1 e9) (go (Zcd (Zk rfl rfl es)) (go e10 (go (Z1 (d:=.int A) ?_) (go (Zcd (Zk rfl rfl ep)) (N9 rfl (Zt (aC (d:=.int (A*d-c*b)) ?_ (Law.a1 (d:=.int (b*d)) ?_)) el rfl) (by lia))))))
 ·rw[eA]
  exact Zk rfl (Zk rfl rfl (gT (s6 (by lia) (by lia)) (s6 (by lia) (by lia)))) rfl
 ·exact Zk (Zk rfl rfl (gT (s6 (by lia) (by lia)) (s6 (by lia) (by lia)))) (Zk rfl rfl (gT (s6 (by lia) (by lia)) (s6 (by lia) (by lia)))) rfl
 ·exact Zk rfl rfl (gT (s6 (by lia) (by lia)) (s6 (by lia) (by lia)))
def Zk0 (k:Nat)(h:k<4):∃v:Int,1<=v/\v<=30/\([D.int 1,D.int 6,D.int 6,D.int 6])[k]?=some (.int v):=by
 match k,h with
 |0,_=>exact⟨1,by decide,by decide,rfl⟩
 |1,_=>exact⟨6,by decide,by decide,rfl⟩
 |2,_=>exact⟨6,by decide,by decide,rfl⟩
 |3,_=>exact⟨6,by decide,by decide,rfl⟩
 |n+4,h=>lia
def Zk1 (k:Nat)(h:k<2):∃v:Int,(v=1\/v = -1)/\([D.int 1,D.int (-1)])[k]?=some (.int v):=by
 match k,h with
 |0,_=>exact⟨1,.inl rfl,rfl⟩
 |1,_=>exact⟨-1,.inr rfl,rfl⟩
 |n+2,h=>lia
def Hl {sd:Zi}{f2 f4 f6:Zi->M D}{x y w:Int}(h2:f2 sd=.ok (.int x))(h4:f4 sd=.ok (.int y))(h6:f6 sd=.ok (.int w)):∃a b,N1 a b/\Zv Qf (Zb (Zl DL.Jv (Zl Qa f2 ↑41) ↑20) (Zb (Zl Z8 ↑1 (Zl Qa f4 (Zl Yu (Xh (Zb ↑1 (Zb ↑6 (Zb ↑6 (Zb ↑6 Zh))))) (Zl Qa f6 ↑4)))) Zh)) sd=.ok (nD a b):=by
 obtain⟨k,ek,hk⟩:=X5 w (m:=4) (by decide)
 obtain⟨v,v0,v1,ev⟩:=Zk0 k hk
 have m0:=Int.emod_nonneg x (show(41:Int)≠0 by decide)
 have m1:=Int.emod_lt_of_pos x (show(0:Int)<41 by decide)
 have n0:=Int.emod_nonneg y (show v≠0 by lia)
 have n1:=Int.emod_lt_of_pos y (show 0<v by lia)
 obtain⟨p,q,el,hn,_⟩:=S9 (t:=x%41-20) (b:=1+y%v) (by lia) (by lia) (by lia)
 have e12:(10:Nat) ^ 12=1000000000000:=rfl
 have fl:=Lx (k:=12) (t:=x%41-20) (b:=1+y%v) ⟨by lia,by rw[e12];lia,by rw[e12];lia⟩ (by decide)
 rw[el] at fl
 refine⟨p,q,hn,Zt (aC (Zk (Zk h2 rfl (gM (by decide))) rfl rfl) (Law.a1 (Zk rfl (Zk h4 (Y1 (i:=(k:Int)) (Kd rfl (Y8 (by show(4:Nat)<=1000000;decide))) (Zk h6 rfl (by rw[gM (by decide)];congr 2)) (Xx ev)) (gM (by lia))) rfl))) fl rfl⟩
def Hm (o0 o1 o2 o3 o4 o6 o7 o8 o9 o10 o11 o12 o13 o14 o15:Option S)(x0 x1 x2 x3 x4 x5 x6:Int):∃s:Po4,StD s/\Znl [o0,o1,o2,o3,o4,Io (.lst ([x0,x1,x2,x3,x4,x5,x6].map D.int)),o6,o7,o8,o9,o10,o11,o12,o13,o14,o15]=.ok (.rt (.im s.D)):=by
 obtain⟨a,b,n1,e1⟩:=Hl (sd:=[o0,o1,o2,o3,o4,Io (.lst ([x0,x1,x2,x3,x4,x5,x6].map D.int)),o6,o7,o8,o9,o10,o11,o12,o13,o14,o15]) (f2:=Zl Yu (Zd 5) ↑2) (f4:=Zl Yu (Zd 5) ↑4) (f6:=Zl Yu (Zd 5) ↑6) (x:=x2) (y:=x4) (w:=x6) rfl rfl rfl
 obtain⟨c,d,n2,e2⟩:=Hl (sd:=[o0,o1,o2,o3,o4,Io (.lst ([x0,x1,x2,x3,x4,x5,x6].map D.int)),o6,o7,o8,o9,o10,o11,o12,o13,Io (nD a b),o15]) (f2:=Zl Yu (Zd 5) ↑3) (f4:=Zl Yu (Zd 5) ↑5) (f6:=Zl Yb 5[6]! ↑4) (x:=x3) (y:=x5) (w:=x6/4) rfl rfl (Zk (x:=.int x6) rfl rfl (Ci (by decide) (B2 (by decide) (by decide))))
 have e3:∃c' d',N1 c' d'/\(Xw (DL.tB (Zl Xg (Zl Qa 5[0]! ↑4) ↑3)) (Z5 15 (Zv Qf (Zb (Zl Qb 14[0]! (Zl Yu (Xh (Zb ↑1 (Zb (E7 Wz ↑1) Zh))) (Zl Qa 5[3]! ↑2))) (Zb 14[1]! Zh)))) Q3) [o0,o1,o2,o3,o4,Io (.lst ([x0,x1,x2,x3,x4,x5,x6].map D.int)),o6,o7,o8,o9,o10,o11,o12,o13,Io (nD a b),Io (nD c d)]=.ok (.nx [o0,o1,o2,o3,o4,Io (.lst ([x0,x1,x2,x3,x4,x5,x6].map D.int)),o6,o7,o8,o9,o10,o11,o12,o13,Io (nD a b),Io (nD c' d')]):=by
  have cc:DL.tB (Zl Xg (Zl Qa 5[0]! ↑4) ↑3) [o0,o1,o2,o3,o4,Io (.lst ([x0,x1,x2,x3,x4,x5,x6].map D.int)),o6,o7,o8,o9,o10,o11,o12,o13,Io (nD a b),Io (nD c d)]=.ok (x0%4==3):=Qg (Zk (x:=.int (x0%4)) (Zk (x:=.int x0) rfl rfl (gM (by decide))) rfl (Q5 _ _))
  cases hb:x0%4==3 with
  |false=>rw[hb] at cc;exact⟨c,d,n2,Z2 cc⟩
  |true=>
   rw[hb] at cc
   obtain⟨k,ek,hk⟩:=X5 x3 (m:=2) (by decide)
   obtain⟨v,hv,ev⟩:=Zk1 k hk
   have av:((a*v).natAbs:Int)<=40*b:=by
    have:=n1.le
    rcases hv with rfl|rfl<;>lia
   obtain⟨p,q,el,hn,_⟩:=S9 (t:=a*v) (b:=b) n1.fr.pos n1.b9 av
   have fl:=Lx (k:=12) (t:=a*v) (b:=b) ⟨n1.fr.pos,by have:=n1.fr.top;rcases hv with rfl|rfl<;>lia,n1.fr.bot⟩ (by decide)
   rw[el] at fl
   refine⟨p,q,hn,Ql cc (Z1 (Zt (aC (Zk (Z0 rfl rfl (Yt _ _)) (Y1 (i:=(k:Int)) (Kd (ds:=[.int 1,.int (-1)]) rfl (Y8 (by show(2:Nat)<=1000000;decide))) (Zk (x:=.int x3) rfl rfl (by rw[gM (by decide)];congr 2)) (Xx ev)) (gT (Yi n1.fr.top (by decide)) (B2 (by lia) (by lia)))) (Law.a1 (Z0 rfl rfl (Xi _ _ _)))) fl rfl))⟩
 obtain⟨c',d',n3,e3⟩:=e3
 have z1:DL.tB (Zl Xg 14[0]! ↑0) [o0,o1,o2,o3,o4,Io (.lst ([x0,x1,x2,x3,x4,x5,x6].map D.int)),o6,o7,o8,o9,o10,o11,o12,o13,Io (nD a b),Io (nD c' d')]=.ok (a==0):=Qg (Zk (Z0 rfl rfl (Yt _ _)) rfl (Q5 _ _))
 have z2:DL.tB (Zl Xg 15[0]! ↑0) [o0,o1,o2,o3,o4,Io (.lst ([x0,x1,x2,x3,x4,x5,x6].map D.int)),o6,o7,o8,o9,o10,o11,o12,o13,Io (nD a b),Io (nD c' d')]=.ok (c'==0):=Qg (Zk (Z0 rfl rfl (Yt _ _)) rfl (Q5 _ _))
 by_cases h0:a=0/\c'=0
 ·rw[show(a==0)=true by simp[h0.1]] at z1
  rw[show(c'==0)=true by simp[h0.2]] at z2
  refine⟨⟨1,1,0,1⟩,⟨⟨⟨by decide,by decide,by decide⟩,by decide,by decide,by decide⟩,⟨⟨by decide,by decide,by decide⟩,by decide,by decide,by decide⟩,.inl (by decide)⟩,go (Z1 e1) (go (Z1 e2) (go e3 (Ya (Ql (Sy z1 z2) (Z4 (Kc (Kc rfl rfl) (Kc rfl rfl)))))))⟩
 ·have ne:a≠0\/c'≠0:=by
   by_cases ha:a=0
   ·exact .inr fun z=>h0 ⟨ha,z⟩
   ·exact .inl ha
  have zz:=Zca z1 z2
  rw[show((a==0)&&(c'==0))=false by rcases ne with q|q<;>simp[q]] at zz
  exact⟨⟨a,b,c',d'⟩,Zgj n1 n3 ne,go (Z1 e1) (go (Z1 e2) (go e3 (go (Z2 zz) (Z4 (Kc rfl rfl)))))⟩
def Zi1 (cl:Int)(o1 o2:D){W H:Nat}(hW:W<=8)(hH:H<=8){p:Po4}(hp:PtOk W H p){ps:List Po4}(hps:∀q∈ps,PtOk W H q)(hl:ps.length<=100):∃s:Po4,StD s/\Wm [.int cl,o1,o2,p.D,.lst (ps.map Po4.D)]=.ok (.im s.D):=by
 obtain⟨es,hes,_,en⟩:=Kw cl 7 (by decide)
 obtain⟨x0,x1,x2,x3,x4,x5,x6,rfl⟩:∃x0 x1 x2 x3 x4 x5 x6,es=[x0,x1,x2,x3,x4,x5,x6]:=by
  match es,hes with
  |[x0,x1,x2,x3,x4,x5,x6],_=>exact⟨x0,x1,x2,x3,x4,x5,x6,rfl⟩
 have e5:Zv Qd (Zb (Zd 0) (Zb ↑7 Zh)) [Jo cl,Io o1,Io o2,Io p.D,Io (.lst (ps.map Po4.D)),none,none,none,none,none,none,none,none,none,none,none]=.ok (.lst ([x0,x1,x2,x3,x4,x5,x6].map D.int)):=Zt (aC rfl (Law.a1 rfl)) en rfl
 have c1:DL.tB (Zl Zau (Zl Qa 5[0]! ↑4) ↑2) [Jo cl,Io o1,Io o2,Io p.D,Io (.lst (ps.map Po4.D)),Io (.lst ([x0,x1,x2,x3,x4,x5,x6].map D.int)),none,none,none,none,none,none,none,none,none,none]=.ok (decide (x0%4<2)):=Qg (Zk (x:=.int (x0%4)) (Zk (x:=.int x0) rfl rfl (gM (by decide))) rfl rfl)
 have dp:D.dep (.lst (ps.map Po4.D))<=60:=by
  have:D.deps (ps.map Po4.D)<=5:=Uu fun d hd=>by
   obtain⟨q,_,rfl⟩:=List.mem_map.mp hd
   simp[Po4.D,nD,D.dep,D.deps]
  simp only[D.dep]
  lia
 have c2:DL.tB (Zl W0 (Zd 4) (Xh Zh)) [Jo cl,Io o1,Io o2,Io p.D,Io (.lst (ps.map Po4.D)),Io (.lst ([x0,x1,x2,x3,x4,x5,x6].map D.int)),none,none,none,none,none,none,none,none,none,none]=.ok (!ps.isEmpty):=by
  refine Qg (Zk (y:=.lst []) rfl rfl ?_)
  rw[V7 dp]
  cases ps<;>rfl
 have cc:=Zca c1 c2
 by_cases h:(decide (x0%4<2)&&!ps.isEmpty)=true
 ·rw[h] at cc
  have hn:0<ps.length:=by
   rw[Bool.and_eq_true] at h
   cases ps with
   |nil=>cases h.2
   |cons a r=>simp
  obtain⟨k,ek,hk⟩:=X5 x1 (m:=ps.length) hn
  have eq:(ps.map Po4.D)[k]?=some (ps[k]).D:=by rw[List.getElem?_map,List.getElem?_eq_getElem hk];rfl
  have hq:=hps ps[k] (List.getElem_mem hk)
  generalize ps[k]=q at eq hq
  have e6:Zl Yu (Zd 4) (Zl Qa 5[1]! (J2 V0 (Zb (Zd 4) Zh))) [Jo cl,Io o1,Io o2,Io p.D,Io (.lst (ps.map Po4.D)),Io (.lst ([x0,x1,x2,x3,x4,x5,x6].map D.int)),none,none,none,none,none,none,none,none,none,none]=.ok q.D:=by
   refine Y1 (i:=(k:Int)) rfl (Zk (x:=.int x1) (y:=.int (ps.length:Int)) rfl (Xd (Law.a1 rfl) (by rw[Pa,List.length_map])) ?_) (Xx eq)
   rw[gM (by lia),ek]
  obtain⟨t1,q1,a9,a10,a11,a12,a13,q10,q11,q12,u1⟩:=Hj (Jo cl) (Io o1) (Io o2) (Io (.lst (ps.map Po4.D))) (pt:=p.D) (sp:=q.D) (xs:=[x0,x1,x2,x3,x4,x5,x6].map D.int) (k:=0) (x2:=x2) (x4:=x4) hW hq.x hp.x rfl rfl rfl rfl [] (by simp) none none none none none none none
  obtain⟨t2,q2,b9,b10,b11,b12,b13,q20,q21,q22,u2⟩:=Hj (Jo cl) (Io o1) (Io o2) (Io (.lst (ps.map Po4.D))) (pt:=p.D) (sp:=q.D) (xs:=[x0,x1,x2,x3,x4,x5,x6].map D.int) (k:=1) (x2:=x3) (x4:=x5) hH hq.y hp.y rfl rfl rfl rfl [K9 t1 q1] (by simp) a9 a10 a11 a12 a13 none none
  obtain⟨a,b,el1,n1,z1⟩:=S9 q10 (by lia) q12
  obtain⟨c,d,el2,n2,z2⟩:=S9 q20 (by lia) q22
  have lp:Xa (Xf 8) Zmz [.int 0,.int 1] [Jo cl,Io o1,Io o2,Io p.D,Io (.lst (ps.map Po4.D)),Io (.lst ([x0,x1,x2,x3,x4,x5,x6].map D.int)),Io q.D,some (.ow []),none,none,none,none,none,none,none,none]=.ok (.nx [Jo cl,Io o1,Io o2,Io p.D,Io (.lst (ps.map Po4.D)),Io (.lst ([x0,x1,x2,x3,x4,x5,x6].map D.int)),Io q.D,some (.ow [nD a b,nD c d]),Jo 1,b9,b10,b11,b12,b13,none,none]):=by
   rw[<-el1,<-el2]
   exact(Ye rfl u1).trans ((Ye rfl u2).trans rfl)
  have y1:DL.tB (Zl W0 (Zl Yu 7[0]! ↑0) ↑0) [Jo cl,Io o1,Io o2,Io p.D,Io (.lst (ps.map Po4.D)),Io (.lst ([x0,x1,x2,x3,x4,x5,x6].map D.int)),Io q.D,Io (.lst [nD a b,nD c d]),Jo 1,b9,b10,b11,b12,b13,none,none]=.ok (!(a==0)):=Qg (Zk (Z0 (Y1 rfl rfl (Yt _ _)) rfl (Yt _ _)) rfl (by rw[V7 (by simp[D.dep])];rfl))
  have y2:DL.tB (Zl W0 (Zl Yu 7[1]! ↑0) ↑0) [Jo cl,Io o1,Io o2,Io p.D,Io (.lst (ps.map Po4.D)),Io (.lst ([x0,x1,x2,x3,x4,x5,x6].map D.int)),Io q.D,Io (.lst [nD a b,nD c d]),Jo 1,b9,b10,b11,b12,b13,none,none]=.ok (!(c==0)):=Qg (Zk (Z0 (Y1 rfl rfl (Xi _ _ _)) rfl (Yt _ _)) rfl (by rw[V7 (by simp[D.dep])];rfl))
  have yy:=Zkr y1 y2
  have rg:Yg (Zb ↑2 Zh) [Jo cl,Io o1,Io o2,Io p.D,Io (.lst (ps.map Po4.D)),Io (.lst ([x0,x1,x2,x3,x4,x5,x6].map D.int)),Io q.D,some (.ow []),none,none,none,none,none,none,none,none]=.ok [.int 0,.int 1]:=Zik (n:=2) (Law.a1 rfl) (by decide)
  by_cases ne:a≠0\/c≠0
  ·rw[show(!(a==0)||!(c==0))=true by rcases ne with z|z<;>simp[z]] at yy
   exact⟨⟨a,b,c,d⟩,Zgj n1 n2 ne,(Zjc _ _ _ _ _ _ _).trans (Z6 (go (Z1 e5) (Ya (Ql cc (go (Z1 e6) (go (X3 7 _) (go ((Ys rg).trans lp) (Vo (Ql yy (Z4 (Kc (Y1 rfl rfl (Yt _ _)) (Y1 rfl rfl (Xi _ _ _))))))))))))) ⟩
  ·have ha:a=0:=Classical.not_not.mp fun z=>ne (.inl z)
   have hc:c=0:=Classical.not_not.mp fun z=>ne (.inr z)
   rw[show(!(a==0)||!(c==0))=false by simp[ha,hc]] at yy
   obtain⟨s,hs,er⟩:=Hm (Jo cl) (Io o1) (Io o2) (Io p.D) (Io (.lst (ps.map Po4.D))) (Io q.D) (Io (.lst [nD a b,nD c d])) (Jo 1) b9 b10 b11 b12 b13 none none x0 x1 x2 x3 x4 x5 x6
   exact⟨s,hs,(Zjc _ _ _ _ _ _ _).trans (Z6 (go (Z1 e5) (go (Ql cc (go (Z1 e6) (go (X3 7 _) (go ((Ys rg).trans lp) (Vo (Z2 yy)))))) er)))⟩
 ·rw[Bool.eq_false_iff.mpr h] at cc
  obtain⟨s,hs,er⟩:=Hm (Jo cl) (Io o1) (Io o2) (Io p.D) (Io (.lst (ps.map Po4.D))) none none none none none none none none none none x0 x1 x2 x3 x4 x5 x6
  exact⟨s,hs,(Zjc _ _ _ _ _ _ _).trans (Z6 (go (Z1 e5) (go (Z2 cc) er)))⟩
def Hn (ns:List Int)(lo hi:Option Int):∃cs:List Int,Gn (ns.map D.int) lo hi=cs.map D.int/\cs.length<=ns.length:=by
 unfold Gn
 refine⟨(ns.drop _).take _,by rw[List.map_take,List.map_drop],?_⟩
 rw[List.length_take,List.length_drop]
 lia
def Zi2 {W H:Nat}(w0:1<=W)(w1:W<=8)(h0:1<=H)(h1:H<=8){B:Int}(b0:3<=B)(b1:B<=1000)(cs:List Int)(hl:cs.length<=63):∃ps:List Po4,(∀p∈ps,PtOk W H p)/\ps.length<=63/\Ut [.lst (cs.map D.int),.int (W:Int),.int (H:Int),.int B]=.ok (.ow (ps.map Po4.D)):=by
 obtain⟨ps,w5,w6,ok,nd,l,z,e⟩:=Fw (Io (.lst (cs.map D.int))) w0 w1 h0 h1 b0 b1 cs [] none none (fun p h=>by cases h) List.nodup_nil (by simp;lia)
 exact⟨ps,ok,by simp at l;lia,(Zdj _ _ _ _ _ _).trans (Z6 (go (X3 4 _) (go (f:=Ka (Kj (Zd 0)) (Xf 5) Zmh) ((Ys (Sz rfl)).trans e) rfl)))⟩
def Zfr (ps:List Po4):D.dep (.lst (ps.map Po4.D))<=60:=by
 have:D.deps (ps.map Po4.D)<=5:=Uu fun d hd=>by
  obtain⟨q,_,rfl⟩:=List.mem_map.mp hd
  simp[Po4.D,nD,D.dep,D.deps]
 simp only[D.dep]
 lia
def Zfs (ns:List Int)(hns:ns.length<=63):∃(W H:Nat) (ss:List Sd) (ps:List Po4) (p:Po4),W<=8/\H<=8/\ss.length<=400/\(∀q∈ps,PtOk W H q)/\ps.length<=63/\PtOk W H p /\
  Ww [.lst (ns.map D.int)]=.ok (.im (.tup [Qt W H ss,.lst (ps.map Po4.D),p.D])):=by
 have f0:=Gd ns 0 hns
 have f1:=Gd ns 1 hns
 have f8:=Gd ns 8 hns
 obtain⟨es,hes,_,en⟩:=Kw (cz ns 0) 1 (by decide)
 obtain⟨x,rfl⟩:∃x,es=[x]:=by
  match es,hes with
  |[x],_=>exact⟨x,rfl⟩
 obtain⟨w,ew,hw⟩:=X5 x (m:=5) (by decide)
 obtain⟨h,eh,hh⟩:=X5 (x/5) (m:=5) (by decide)
 have b0:(3:Int)<=9:=by decide
 have b1:(9:Int)<=1000:=by decide
 obtain⟨ss,ls,es⟩:=Zi0 (cz ns 1) (W:=1+w) (H:=1+h) (by lia) (by lia)
 obtain⟨cs,ec,lc⟩:=Hn ns (some 2) (some (2+x/100%6))
 obtain⟨ps,okp,lp,ep⟩:=Zi2 (W:=1+w) (H:=1+h) (by lia) (by lia) (by lia) (by lia) b0 b1 cs (by lia)
 obtain⟨p,okq,eq⟩:=Bq (W:=1+w) (H:=1+h) (by lia) (by lia) (by lia) (by lia) b0 b1 (cz ns 8)
 have cW:((1+w:Nat):Int)=1+(w:Int):=by lia
 have cH:((1+h:Nat):Int)=1+(h:Int):=by lia
 rw[cW,cH] at es ep eq
 have s5:sm 5=true:=B2 (by decide) (by decide)
 generalize hN:ns.map D.int=N at *
 have e1:Zl Yu (Zv Qd (Zb (Zv Yf (Zb (Zd 0) (Zb ↑0 Zh))) (Zb ↑1 Zh))) ↑0 [Io (.lst N),none,none,none,none,none,none,none]=.ok (.int x):=Y1 (Zt (aC (Zt (aC rfl (Law.a1 rfl)) f0 rfl) (Law.a1 rfl)) en rfl) rfl (Yt _ _)
 have e2:∀r:List (Option S),Zl Z8 ↑1 (Zl Qa (Zd 1) ↑5) (Io (.lst N)::Jo x::r)=.ok (.int (1+(w:Int))):=fun r=>Zk rfl (Zk (x:=.int x) rfl rfl (gM (by decide))) (by rw[show x%5=(w:Int) from ew];rfl)
 have e3:∀r:List (Option S),Zl Z8 ↑1 (Zl Qa (Zl Yb (Zd 1) ↑5) ↑5) (Io (.lst N)::Jo x::r)=.ok (.int (1+(h:Int))):=fun r=>Zk rfl (Zk (Zk (x:=.int x) rfl rfl (Ci (by decide) s5)) rfl (gM (by decide))) (by rw[show x/5%5=(h:Int) from eh];rfl)
 have e6:∀r:List (Option S),Do (Zd 0) (Xq ↑2) (Xq (Zl Z8 ↑2 (Zl Qa (Zl Yb (Zd 1) ↑100) ↑6))) (Io (.lst N)::Jo x::r)=.ok (.lst (cs.map D.int)):=fun r=>by
  have q:Zl Z8 ↑2 (Zl Qa (Zl Yb (Zd 1) ↑100) ↑6) (Io (.lst N)::Jo x::r)=.ok (.int (2+x/100%6)):=Zk rfl (Zk (Zk (x:=.int x) rfl rfl (Ci (by decide) (B2 (by decide) (by decide)))) rfl (gM (by decide))) rfl
  have q2:Xq (Zl Z8 ↑2 (Zl Qa (Zl Yb (Zd 1) ↑100) ↑6)) (Io (.lst N)::Jo x::r)=.ok (some (2+x/100%6)):=by unfold Xq;rw[q];rfl
  unfold Do
  rw[q2]
  show M.ok (D.lst (Gn N (some 2) (some (2+x/100%6))))=_
  rw[ec]
 have c1:DL.tB (Zl Xg (Zl Qa (Zl Yb (Zd 1) ↑600) ↑2) ↑0) [Io (.lst N),Jo x,Jo (1+(w:Int)),Jo (1+(h:Int)),Io (Qt (1+w:Nat) (1+h:Nat) ss),Jo 9,Io (.lst (ps.map Po4.D)),Io p.D]=.ok (x/600%2==0):=Qg (Zk (Zk (Zk (x:=.int x) rfl rfl (Ci (by decide) (B2 (by decide) (by decide)))) rfl (gM (by decide))) rfl (Q5 _ _))
 have c2:DL.tB (Zl W0 (Zd 6) (Xh Zh)) [Io (.lst N),Jo x,Jo (1+(w:Int)),Jo (1+(h:Int)),Io (Qt (1+w:Nat) (1+h:Nat) ss),Jo 9,Io (.lst (ps.map Po4.D)),Io p.D]=.ok (!ps.isEmpty):=by
  refine Qg (Zk (y:=.lst []) rfl rfl ?_)
  rw[V7 (Zfr ps)]
  cases ps<;>rfl
 have cc:=Zca c1 c2
 obtain⟨p',okp',e7⟩:∃p':Po4,PtOk (1+w) (1+h) p'/\(Xw (DL.tA (DL.tB (Zl Xg (Zl Qa (Zl Yb (Zd 1) ↑600) ↑2) ↑0)) (DL.tB (Zl W0 (Zd 6) (Xh Zh)))) (Z5 7 (Zl Yu (Zd 6) (Zl Qa (Zl Yb (Zd 1) ↑1200) (J2 V0 (Zb (Zd 6) Zh))))) Q3) [Io (.lst N),Jo x,Jo (1+(w:Int)),Jo (1+(h:Int)),Io (Qt (1+w:Nat) (1+h:Nat) ss),Jo 9,Io (.lst (ps.map Po4.D)),Io p.D]=.ok (.nx [Io (.lst N),Jo x,Jo (1+(w:Int)),Jo (1+(h:Int)),Io (Qt (1+w:Nat) (1+h:Nat) ss),Jo 9,Io (.lst (ps.map Po4.D)),Io p'.D]):=by
  by_cases q:((x/600%2==0)&&!ps.isEmpty)=true
  ·rw[q] at cc
   have hn:0<ps.length:=by
    rw[Bool.and_eq_true] at q
    cases ps with
    |nil=>cases q.2
    |cons a r=>simp
   obtain⟨j,ej,hj⟩:=X5 (x/1200) (m:=ps.length) hn
   have eq:(ps.map Po4.D)[j]?=some (ps[j]).D:=by rw[List.getElem?_map,List.getElem?_eq_getElem hj];rfl
   refine⟨ps[j],okp _ (List.getElem_mem hj),Ql cc (Z1 (Y1 (i:=(j:Int)) rfl (Zk (x:=.int (x/1200)) (y:=.int (ps.length:Int)) (Zk (x:=.int x) rfl rfl (Ci (by decide) (B2 (by decide) (by decide)))) (Xd (Law.a1 rfl) (by rw[Pa,List.length_map])) ?_) (Xx eq)))⟩
   rw[gM (by lia),ej]
  ·rw[Bool.eq_false_iff.mpr q] at cc
   exact⟨p,okq,Z2 cc⟩
 refine⟨1+w,1+h,ss,ps,p',by lia,by lia,ls,okp,by lia,okp',?_⟩
 exact(Ze4 _ _ _).trans (Z6 (go (Z1 e1) (go (Z1 (e2 _)) (go (Z1 (e3 _)) (go (Z1 (Zt (aC (Zt (aC rfl (Law.a1 rfl)) f1 rfl) (aC rfl (Law.a1 rfl))) es rfl)) (go (Z1 (d:=.int 9) rfl) (go (Z1 (Zt (aC (e6 _) (aC rfl (aC rfl (Law.a1 rfl)))) ep rfl)) (go (Z1 (Zt (aC (Zt (aC rfl (Law.a1 rfl)) f8 rfl) (aC rfl (aC rfl (Law.a1 rfl)))) eq rfl)) (go e7 (Z4 (Pc rfl rfl rfl)))))))))))
theorem Zk2 {α:Type}{gt:D->Zi->M Zi}{fc:Zi->M Bool}{fe:Zi->M D}{sd0:Zi}(e g:α->D)(q:α->Bool):∀l:List α,(∀a∈l,∃sd1,gt (e a) sd0=.ok sd1/\fc sd1=.ok (q a)/\fe sd1=.ok (g a))->Pw gt fc fe sd0 (l.map e)=.ok ((l.filter q).map g)
 |[],_=>rfl
 |a::l,h=>by
  obtain⟨sd1,h1,h2,h3⟩:=h a (by simp)
  have ih:=Zk2 (gt:=gt) (fc:=fc) (fe:=fe) (sd0:=sd0) e g q l fun b hb=>h b (by simp[hb])
  rw[List.map_cons]
  cases z:q a with
  |true=>
   rw[z] at h2
   rw[List.filter_cons_of_pos z]
   simp only[Pw,h1,h2,h3,ih,List.map_cons]
  |false=>
   rw[z] at h2
   rw[List.filter_cons_of_neg (by rw[z];decide)]
   simp only[Pw,h1,h2,ih]
def O1 {α:Type}{fi:Zi->M (List D)}{n0:Nat}{caps:List Nat}{gt:D->Zi->M Zi}{fc:Zi->M Bool}{fe:Zi->M D}{sd:Zi}(e g:α->D)(q:α->Bool){l:List α}(hi:fi sd=.ok (l.map e))(hl:l.length<=1000)(h:∀a∈l,∃sd1,gt (e a) (U0 n0 caps sd)=.ok sd1/\fc sd1=.ok (q a)/\fe sd1=.ok (g a)):
  Pu (Uj fi n0 caps gt fc fe) sd=.ok (.lst ((l.filter q).map g)):=by
 unfold Pu Uj
 rw[hi,M.bind_ok,Y8 (by rw[List.length_map];lia),if_pos rfl,Zk2 e g q l h]
 rfl
def Zgk (k:Nat)(tn:List D):Nat:=(tn.filter fun d=>Zfm (Zkw k d)).length
theorem By (k:Nat):∀tn:List D,par k tn=if Zgk k tn%2=0 then 1 else -1
 |[]=>rfl
 |d::l=>by
  have ih:=By k l
  show(if Zfm (Zkw k d)=true then -1 else 1)*par k l=_
  rw[ih]
  unfold Zgk
  cases h:Zfm (Zkw k d) with
  |true=>
   rw[List.filter_cons_of_pos (by exact h),List.length_cons,if_pos rfl]
   split<;>split<;>lia
  |false=>
   rw[List.filter_cons_of_neg (by rw[h];decide),if_neg (by decide),Int.one_mul]
def Zc4 (k:Nat)(tn:List D):∃j:Nat,((Zgk k tn:Nat):Int)%2=(j:Int)/\([D.int 1,D.int (-1)])[j]?=some (.int (par k tn)):=by
 rw[By]
 refine⟨Zgk k tn%2,by lia,?_⟩
 have:Zgk k tn%2=0\/Zgk k tn%2=1:=by lia
 rcases this with h|h<;>rw[h]<;>rfl
def Ux (k:Nat)(tn:List D):par k tn=1\/par k tn = -1:=by
 rw[By]
 split
 ·exact .inl rfl
 ·exact .inr rfl
def mk_hz {n m a b T:Int}:(Uw n m a b T).h=0↔a=0:=by
 constructor
 ·intro h
  have:=@Ziv n m a b T
  rw[h,Int.zero_mul] at this
  exact this.symm
 ·intro h;rw[Bw h]
def Zc5 {n m a b T k:Int}(hm:0<m)(e:a≠0->T=m*a.natAbs*k):(a=0->(Uw n m a b T).lap=0)/\(a≠0->(Uw n m a b T).lap*a.natAbs=b*T/\(Uw n m a b T).h=sg a):=by
 constructor
 ·intro h;rw[Bw h]
 ·intro h
  rw[S8 h hm (e h)]
  refine⟨?_,rfl⟩
  show b*(m*k)*a.natAbs=b*T
  rw[e h];grind
def Zc6 {n m a b T k:Int}(hm:0<m)(e:a≠0->T=m*a.natAbs*k)(h:a≠0):k ∣ (Uw n m a b T).due/\k ∣ (Uw n m a b T).lap:=by
 rw[S8 h hm (e h)]
 exact⟨⟨Yl n m a*b,by show Yl n m a*(b*k)=_;grind⟩,⟨b*m,by show b*(m*k)=_;grind⟩⟩
def O2 {t:Tk}{k b m T n3 m3:Int}(h:t.h≠0)(k0:0<k)(hb:0<b)(hm:0<m)(hl:t.lap=b*(m*k))(hd:k ∣ t.due)(hT:k ∣ T)(hp:place t T=nD n3 m3):m3<=b*m:=by
 unfold place at hp
 rw[if_neg h] at hp
 have bm:0<b*m:=Int.mul_pos hb hm
 have l0:0<t.lap:=by rw[hl];exact Int.mul_pos hb (Int.mul_pos hm k0)
 obtain⟨d1,e1⟩:=hd
 obtain⟨d2,e2⟩:=hT
 have e:K9 (t.line*t.lap-t.h*(t.due-T)) t.lap=K9 (t.line*(b*m)-t.h*(d1-d2)) (b*m):=by
  refine V8 l0 bm ?_
  rw[hl,e1,e2]
  grind
 rw[e] at hp
 obtain⟨p,q,ep,_,_,_,_,h4⟩:=Xv (t:=t.line*(b*m)-t.h*(d1-d2)) (b:=b*m) bm
 rw[ep] at hp
 obtain⟨_,rfl⟩:=Pd hp
 exact h4
def Zft {z:Nat}{n m:Int}(f:Fr 15 n m)(g:Int.gcd n m=1)(m1:1<m)(a:0<=n/m)(b:n/m<z):PB z n m:=by
 have nw:∀k:Int,k*m≠n:=fun k e=>by
  have:=F9 f.pos g (c:=k) e.symm
  lia
 have h1:=Int.mul_ediv_add_emod n m
 have h2:=Int.emod_nonneg n (show m≠0 by lia)
 have h3:=Int.emod_lt_of_pos n f.pos
 have h4:=Int.mul_nonneg (Int.le_of_lt f.pos) a
 refine⟨f,?_,?_,g,nw⟩
 ·have:=nw 0
  rw[Int.zero_mul] at this
  lia
 ·have:=Int.mul_le_mul_of_nonneg_left (show n/m+1<=z by lia) (Int.le_of_lt f.pos)
  rw[Int.mul_add,Int.mul_one,Int.mul_comm m (z:Int)] at this
  lia
def Ta {c:Po4->Option (Int×Int)}{b:Fz}{p:Po4}(h:b≠none):Xe c b p≠none:=by
 unfold Xe
 cases c p with
 |none=>exact h
 |some xy=>
  obtain⟨x,y⟩:=xy
  cases b with
  |none=>exact absurd rfl h
  |some q=>
   obtain⟨q,x0,y0⟩:=q
   dsimp only
   split<;>exact fun z=>by cases z
theorem Tb {c:Po4->Option (Int×Int)}:∀(l:List Po4) (b:Fz),b≠none->l.foldl (Xe c) b≠none
 |[],_,h=>h
 |p::l,b,h=>Tb l _ (Ta h)
theorem Tc {c:Po4->Option (Int×Int)}:∀(l:List Po4) (b:Fz),l.foldl (Xe c) b=none->∀p∈l,c p=none
 |[],_,_,_,h=>by cases h
 |q::l,b,h,p,hp=>by
  rcases List.mem_cons.mp hp with rfl|hp
  ·cases e:c p with
   |none=>rfl
   |some xy=>
    refine absurd h (Tb l _ ?_)
    obtain⟨x,y⟩:=xy
    cases b with
    |none=>rw[Pb e];exact fun z=>by cases z
    |some b=>exact Ta fun z=>by cases z
  ·exact Tc l _ h p hp
structure Rv (c1 c2 T T':Int) (t t':Tk):Prop where
 sq:t'.sq=t.sq
 h:t'.h = -t.h
 lap:c2*t'.lap=c1*t.lap
 due:(t.h≠0/\c2*t'.due=c1*(T-t.due+t.lap))\/(t.h=0/\t'.n=t.n/\t'.m=t.m/\t'.due=T'+1)
def Pe {sq h:Int}(hh:h=1\/h = -1):Yn sq (-h)=Yn sq h-h:=by
 unfold Yn
 rcases hh with rfl|rfl<;>simp<;>lia
def O3 {sq h:Int}(hh:h=1\/h = -1):Yn (sq+h) (-h)=Yn sq h:=by
 unfold Yn
 rcases hh with rfl|rfl<;>simp<;>lia
section
variable {c1 c2 T T':Int}{t u t' u':Tk}
theorem Rv.place (h1:0<c1)(h2:0<c2)(x:Rv c1 c2 T T' t t')(hh:t.h≠0->(t.h=1\/t.h = -1)/\0<t.lap){w w':Int}(hw:c2*w'=c1*(T-w)):place t' w'=place t w:=by
 unfold Law.place
 rcases x.due with⟨h,d⟩|⟨h,a,b,_⟩
 ·obtain⟨g,l0⟩:=hh h
  have l1:0<t'.lap:=by
   have:0<c2*t'.lap:=by rw[x.lap];exact Int.mul_pos h1 l0
   exact Int.pos_of_mul_pos_right this h2
  rw[if_neg h,if_neg (by rw[x.h];lia)]
  refine V8 l1 l0 ?_
  have el:t'.line=t.line-t.h:=by unfold Tk.line;rw[x.sq,x.h];exact Pe g
  have e:=x.lap
  rw[el,x.h]
  generalize t.line=L at *
  have:c2*(((L-t.h)*t'.lap - -t.h*(t'.due-w'))*t.lap)=c2*((L*t.lap-t.h*(t.due-w))*t'.lap):=by grind
  exact Int.eq_of_mul_eq_mul_left (by lia) this
 ·rw[if_pos h,if_pos (by rw[x.h,h];rfl),a,b]
theorem Rv.tm (x:Rv c1 c2 T T' t t')(hh:t.h=1\/t.h = -1)(n d:Int):c2*t'.tm n d=c1*(T*d-t.tm n d):=by
 have el:t'.line=t.line-t.h:=by unfold Tk.line;rw[x.sq,x.h];exact Pe hh
 unfold Tk.tm
 rw[el,x.h]
 generalize t.line=L at *
 rcases x.due with⟨_,e⟩|⟨z,_⟩
 ·have e2:=x.lap
  rcases hh with q|q<;>rw[q]<;>grind
 ·lia
def Vv (c1 c2 T:Int):Option (Int×Int)->Option (Int×Int)->Prop
 |none,none=>True
 |some (x,y),some (x',y')=>y'=y/\c2*x'=c1*(T*y-x)
 |_,_=>False
theorem Rv.tval (h1:0<c1)(h2:0<c2)(x:Rv c1 c2 T T' t t')(y:Rv c1 c2 T T' u u')(hx:t.h≠0->t.h=1\/t.h = -1)(hy:u.h≠0->u.h=1\/u.h = -1)(hm:t.h≠0\/u.h≠0)(p:Po4):Vv c1 c2 T (tval t u p) (tval t' u' p):=by
 unfold Law.tval
 have nx:t'.h≠0↔t.h≠0:=by rw[x.h];lia
 have ny:u'.h≠0↔u.h≠0:=by rw[y.h];lia
 by_cases ht:t.h=0
 ·have hu:=hm.resolve_left fun z=>z ht
  have nt:¬(t.h≠0):=fun z=>z ht
  rw[if_neg nt,if_neg (fun z=>nt (nx.mp z))]
  rcases x.due with⟨z,_⟩|⟨_,a,b,_⟩
  ·exact absurd ht z
  ·rw[a,b]
   by_cases q:p.a=t.n/\p.b=t.m
   ·rw[if_pos q,if_pos q];exact⟨rfl,y.tm (hy hu) _ _⟩
   ·rw[if_neg q,if_neg q];trivial
 ·rw[if_pos ht,if_pos (nx.mpr ht)]
  have ex:=x.tm (hx ht) p.a p.b
  by_cases hu:u.h=0
  ·have nu:¬(u.h≠0):=fun z=>z hu
   rw[if_neg nu,if_neg (fun z=>nu (ny.mp z))]
   rcases y.due with⟨z,_⟩|⟨_,a,b,_⟩
   ·exact absurd hu z
   ·rw[a,b]
    by_cases q:p.c=u.n/\p.d=u.m
    ·rw[if_pos q,if_pos q];exact⟨rfl,ex⟩
    ·rw[if_neg q,if_neg q];trivial
  ·rw[if_pos hu,if_pos (ny.mpr hu)]
   have ey:=y.tm (hy hu) p.c p.d
   have e:t'.tm p.a p.b*p.d=u'.tm p.c p.d*p.b↔t.tm p.a p.b*p.d=u.tm p.c p.d*p.b:=by
    generalize t'.tm p.a p.b=A' at *
    generalize u'.tm p.c p.d=B' at *
    generalize t.tm p.a p.b=A at *
    generalize u.tm p.c p.d=B at *
    constructor
    ·intro q
     have:c1*(A*p.d)=c1*(B*p.b):=by grind
     exact Int.eq_of_mul_eq_mul_left (by lia) this
    ·intro q
     have:c2*(A'*p.d)=c2*(B'*p.b):=by grind
     exact Int.eq_of_mul_eq_mul_left (by lia) this
   by_cases q:t.tm p.a p.b*p.d=u.tm p.c p.d*p.b
   ·rw[if_pos q,if_pos (e.mpr q)];exact⟨rfl,ex⟩
   ·rw[if_neg q,if_neg (fun z=>q (e.mp z))];trivial
theorem Ho {c:Po4->Option (Int×Int)}:∀l:List Po4,(∀p∈l,c p=none)->l.foldl (Xe c) none=none
 |[],_=>rfl
 |p::l,h=>by
  rw[List.foldl_cons,Jh (h p (.head _))]
  exact Ho l fun q hq=>h q (.tail _ hq)
def Rv.free (h1:0<c1)(h2:0<c2)(hT:c2*T'=c1*T)(x:Rv c1 c2 T T' t t')(y:Rv c1 c2 T T' u u')(hx:t.h≠0->t.h=1\/t.h = -1)(hy:u.h≠0->u.h=1\/u.h = -1)(hm:t.h≠0\/u.h≠0){ps:List Po4}(ha:Vq ps T t u=none):Vq ps T' t' u'=none:=by
 unfold Vq at ha ⊢
 have hn:=Tc _ _ ha
 rw[x.sq,y.sq]
 refine Ho _ fun p hp=>?_
 have hw:=hn p hp
 have hv:=x.tval h1 h2 y hx hy hm p
 cases e:Law.tval t u p with
 |none=>
  cases e':Law.tval t' u' p with
  |none=>rfl
  |some z=>rw[e,e'] at hv;exact hv.elim
 |some z=>
  obtain⟨a,b⟩:=z
  cases e':Law.tval t' u' p with
  |none=>rfl
  |some z'=>
   obtain⟨a',b'⟩:=z'
   rw[e,e'] at hv
   obtain⟨rfl,hv⟩:=hv
   refine K8 rfl fun q=>?_
   rw[Uv e] at hw
   ·cases hw
   ·obtain⟨q1,q2⟩:=q
    rw[Int.zero_mul] at q1 ⊢
    have k1:0<c1*(T*b'-a):=by rw[<-hv];exact Int.mul_pos h2 q1
    have k2:c1*(T*b'-a)<c1*(T*b'):=by
     rw[<-hv,<-Int.mul_assoc,<-hT,Int.mul_assoc]
     exact(Int.mul_lt_mul_left h2).mpr q2
    have k3:=Int.pos_of_mul_pos_right k1 h1
    have k4:=Int.lt_of_mul_lt_mul_left k2 (Int.le_of_lt h1)
    exact⟨by lia,by lia⟩
end
def TI.mv1 {z:Nat}{T now:Int}{t:Tk}(h:TI z T now t)(q:t.h≠0):(t.h=1\/t.h = -1)/\0<t.lap:=by
 rcases h.mv with a|a
 ·exact absurd a.1 q
 ·exact⟨a.1,a.2.1⟩
section
variable {c1 c2 T T' n' w' now:Int}{z:Nat}{t t1':Tk}{th:Th}
def C6 (h1:0<c1)(h2:0<c2)(hT:c2*T'=c1*T)(ti:TI z T now t)(a0:0<=now)(a:now<n')(b:n'<=t.due)(c:n'<T)(hw:c2*w'=c1*(T-n'))(x:Rv c1 c2 T T' (Qi t n' th) t1'):(t.due=n'->t1'.due=w')/\(t.due≠n'->w'<t1'.due):=by
 have wT:w'<T':=by
  have:c1*(T-n')<c1*T:=(Int.mul_lt_mul_left h1).mpr (by lia)
  rw[<-hw,<-hT] at this
  exact Int.lt_of_mul_lt_mul_left this (Int.le_of_lt h2)
 constructor
 ·intro d
  have hh:t.h≠0:=fun q=>by rcases ti.mv with g|g<;>lia
  rcases x.due with⟨_,e⟩|⟨g,_⟩
  ·have p1:=Wo (th:=th) d
   rw[p1] at e
   have:c2*t1'.due=c2*w':=by
    rw[e,hw]
    congr 1
    lia
   exact Int.eq_of_mul_eq_mul_left (by lia) this
  ·exact absurd g (pass_h.mpr hh)
 ·intro d
  have ep:Qi t n' th=t:=if_neg d
  rw[ep] at x
  rcases x.due with⟨g,e⟩|⟨_,_,_,e⟩
  ·rcases ti.mv with q|⟨_,_,_,q⟩
   ·exact absurd q.1 g
   ·have:c1*(T-n')<c1*(T-t.due+t.lap):=(Int.mul_lt_mul_left h1).mpr (by lia)
    rw[<-hw,<-e] at this
    exact Int.lt_of_mul_lt_mul_left this (Int.le_of_lt h2)
  ·lia
def L7 (ti:TI z T now t)(hd:t.due=n'->t1'.due=w')(hd':t.due≠n'->w'<t1'.due)(hw:c2*w'=c1*(T-n'))(c:n'<T)(x:Rv c1 c2 T T' (Qi t n' th) t1'):Rv c1 c2 T T' t (Qi t1' w' th):=by
 by_cases d:t.due=n'
 ·have d':=hd d
  have hh:t.h≠0:=fun q=>by rcases ti.mv with g|g<;>lia
  have lap:=x.lap
  rw[Jc] at lap
  have hdue:c2*(t1'.due+t1'.lap)=c1*(T-t.due+t.lap):=by
   rw[Int.mul_add,lap,d',hw,d,<-Int.mul_add]
  have sq:=x.sq
  have hx:=x.h
  unfold Qi at sq hx ⊢
  rw[if_pos d] at sq hx
  rw[if_pos d']
  cases hm:th.mir with
  |true=>
   rw[hm,if_pos rfl] at sq hx
   rw[if_pos rfl]
   dsimp only at sq hx
   exact⟨sq,by show -t1'.h = -t.h;lia,lap,.inl ⟨hh,hdue⟩⟩
  |false=>
   rw[hm,if_neg (by decide)] at sq hx
   rw[if_neg (by decide)]
   dsimp only at sq hx
   exact⟨by show t1'.sq+t1'.h=t.sq;lia,hx,lap,.inl ⟨hh,hdue⟩⟩
 ·have d':=hd' d
  have ep:Qi t n' th=t:=if_neg d
  have ep':Qi t1' w' th=t1':=if_neg (by lia)
  rw[ep] at x
  rw[ep']
  exact x
def Pf (ti:TI z T now t)(c:n'<T)(d:t.due=n')(x:Rv c1 c2 T T' (Qi t n' th) t1'):t1'.line=t.line/\(th.mir=true->t1'.h=t.h):=by
 have hh:t.h≠0:=fun q=>by rcases ti.mv with g|g<;>lia
 have g:=(ti.mv1 hh).1
 have sq:=x.sq
 have hx:=x.h
 unfold Qi at sq hx
 rw[if_pos d] at sq hx
 unfold Tk.line
 cases hm:th.mir with
 |true=>
  rw[hm,if_pos rfl] at sq hx
  dsimp only at sq hx
  rw[sq,hx,Int.neg_neg]
  exact⟨rfl,fun _=>rfl⟩
 |false=>
  rw[hm,if_neg (by decide)] at sq hx
  dsimp only at sq hx
  rw[sq,hx]
  exact⟨O3 g,fun z=>by cases z⟩
def Td (ti:TI z T now t)(c:n'<T):place (Qi t n' th) n'=place t n':=by
 by_cases d:t.due=n'
 ·have hh:t.h≠0:=fun q=>by rcases ti.mv with g|g<;>lia
  obtain⟨g,l0⟩:=ti.mv1 hh
  unfold Qi
  rw[if_pos d]
  cases hm:th.mir with
  |true=>
   rw[if_pos rfl]
   unfold place Tk.line
   dsimp only
   rw[if_neg hh,if_neg (by lia),Pe g]
   congr 1
   rw[d]
   grind
  |false=>
   rw[if_neg (by decide)]
   unfold place Tk.line
   dsimp only
   rw[if_neg hh,if_neg hh]
   have e:Yn (t.sq+t.h) t.h=Yn t.sq t.h+t.h:=by unfold Yn;split<;>lia
   rw[e]
   congr 1
   rw[d]
   grind
 ·rw[show Qi t n' th=t from if_neg d]
end
section
variable {c1 c2 T T':Int}{W H:Nat}{ss:List Sd}{ps:List Po4}{P:D}
def Bk (c1 c2 T T':Int)(W H:Nat)(ss:List Sd)(ps:List Po4)(P:D)(t u:Tk)(tn:List D):Prop:=
 Vq ps T t u=none->∀(most:Nat) (t' u':Tk) (tn':List D),Rv c1 c2 T T' t t'->Rv c1 c2 T T' u u'->tn'.length+tn.length<=most ->
  ∃N,wk W H ss ps T' most N t' u' tn'=some (.tup [.str (Str.ofString "end"),P,.lst (tn'++tn.reverse)])
def Zc7 (h1:0<c1)(h2:0<c2)(hT:c2*T'=c1*T){t u:Tk}(wi:WS W H T 0 t u)(ox:t.h≠0->t.due<t.lap)(oy:u.h≠0->u.due<u.lap):Bk c1 c2 T T' W H ss ps (Yh t u 0) t u []:=fun ha most t' u' tn' x y _=>by
 have hf:=x.free h1 h2 hT y (fun q=>(wi.x.mv1 q).1) (fun q=>(wi.y.mv1 q).1) wi.mv ha
 have far:∀{v v':Tk},Rv c1 c2 T T' v v'->(v.h≠0->v.due<v.lap)->T'<v'.due:=fun {v v'} r o=>by
  rcases r.due with⟨g,e⟩|⟨_,_,_,e⟩
  ·have:=o g
   have:c1*T<c1*(T-v.due+v.lap):=(Int.mul_lt_mul_left h1).mpr (by lia)
   rw[<-e,<-hT] at this
   exact Int.lt_of_mul_lt_mul_left this (Int.le_of_lt h2)
  ·lia
 have fx:=far x ox
 have fy:=far y oy
 have hn:Zp t' u' T'=T':=by unfold Zp;lia
 have hth:thing W H ss t' u' T'=.no:=by
  unfold thing
  rw[if_neg (by lia),if_neg (by lia),if_neg (by lia)]
 have px:=x.place h1 h2 (fun q=>wi.x.mv1 q) (w:=0) (w':=T') (by rw[hT,Int.sub_zero])
 have py:=y.place h1 h2 (fun q=>wi.y.mv1 q) (w:=0) (w':=T') (by rw[hT,Int.sub_zero])
 refine⟨1,?_⟩
 unfold wk
 rw[hf]
 dsimp only
 rw[hn,hth,decide_eq_true rfl]
 show some (D.tup [.str (Str.ofString "end"),Yh t' u' T',.lst tn'])=_
 unfold Yh
 rw[px,py,List.reverse_nil,List.append_nil]
def Zfu (h1:0<c1)(h2:0<c2)(hT:c2*T'=c1*T){t u:Tk}{tn:List D}{now:Int}{may:Bool}(wi:WS W H T now t u)(ha:Vq ps T t u=none)(hw:Ji (thing W H ss t u (Zp t u T)) (decide (Zp t u T=T)) may=none)(hb:Bk c1 c2 T T' W H ss ps P t u tn):
  Bk c1 c2 T T' W H ss ps P (Qi t (Zp t u T) (thing W H ss t u (Zp t u T))) (Qi u (Zp t u T) (thing W H ss t u (Zp t u T))) (if(thing W H ss t u (Zp t u T)).mir=true then tn++[Yh t u (Zp t u T)] else tn):=fun ha1 most t1 u1 tn' x y hl=>by
 have wi':=wi.step hw
 obtain⟨n1,n2,n3,n4⟩:=wi.nxt
 obtain⟨w1,w2⟩:=V9 hw
 have nT:Zp t u T<T:=by have:=of_decide_eq_false w1;lia
 have n0:=wi.n0
 have hf:=x.free h1 h2 hT y (fun q=>(wi'.x.mv1 q).1) (fun q=>(wi'.y.mv1 q).1) wi'.mv ha1
 have hv:t.due=Zp t u T\/u.due=Zp t u T:=by unfold Zp at nT ⊢;lia
 generalize hth:thing W H ss t u (Zp t u T)=th at *
 generalize hn':Zp t u T=n' at *
 obtain⟨w',hw'⟩:∃w',c2*w'=c1*(T-n'):=by
  have key:∀{zz:Nat}{v v':Tk},TI zz T now v->v.due=n'->Rv c1 c2 T T' (Qi v n' th) v'->c2*v'.due=c1*(T-n'):=fun {zz v v'} ti d r=>by
   have hh:v.h≠0:=fun q=>by rcases ti.mv with g|g<;>lia
   rcases r.due with⟨_,e⟩|⟨g,_⟩
   ·rw[Wo (th:=th) d] at e
    rw[e]
    congr 1
    lia
   ·exact absurd g (pass_h.mpr hh)
  rcases hv with d|d
  ·exact⟨_,key wi.x d x⟩
  ·exact⟨_,key wi.y d y⟩
 obtain⟨dx1,dx2⟩:=C6 h1 h2 hT wi.x n0 n1 n3 nT hw' x
 obtain⟨dy1,dy2⟩:=C6 h1 h2 hT wi.y n0 n1 n4 nT hw' y
 have wT:w'<T':=by
  have:c1*(T-n')<c1*T:=(Int.mul_lt_mul_left h1).mpr (by lia)
  rw[<-hw',<-hT] at this
  exact Int.lt_of_mul_lt_mul_left this (Int.le_of_lt h2)
 have ix:t1.due=w'↔t.due=n':=⟨fun q=>Classical.byContradiction fun z=>by have:=dx2 z;lia,dx1⟩
 have iy:u1.due=w'↔u.due=n':=⟨fun q=>Classical.byContradiction fun z=>by have:=dy2 z;lia,dy1⟩
 have ew:Zp t1 u1 T'=w':=by
  have gx:w'<=t1.due:=by by_cases d:t.due=n';have:=dx1 d;lia;have:=dx2 d;lia
  have gy:w'<=u1.due:=by by_cases d:u.due=n';have:=dy1 d;lia;have:=dy2 d;lia
  unfold Zp
  rcases hv with d|d
  ·have:=dx1 d;lia
  ·have:=dy1 d;lia
 have sqx:t.due≠n'->t1.sq=t.sq:=fun d=>by have:=x.sq;rwa[show Qi t n' th=t from if_neg d] at this
 have sqy:u.due≠n'->u1.sq=u.sq:=fun d=>by have:=y.sq;rwa[show Qi u n' th=u from if_neg d] at this
 have et:thing W H ss t1 u1 w'=th:=by
  have hth0:=hth
  unfold thing at hth ⊢
  simp only[ix,iy]
  have fa:∀{h h':Int}{o:Option (Bool×Bool)},S5 h o=th->(th.mir=true->h'=h)->S5 h' o=th:=fun {h h' o} e k=>by
   rcases w2 with q|⟨q,_⟩
   ·rw[q] at e ⊢
    rw[S7 e]
    rfl
   ·rw[k (by rw[q];rfl)]
    exact e
  by_cases bx:t.due=n'
  ·obtain⟨lx,mx⟩:=Pf wi.x nT bx x
   by_cases by':u.due=n'
   ·obtain⟨ly,_⟩:=Pf wi.y nT by' y
    rw[if_pos ⟨bx,by'⟩] at hth ⊢
    rw[lx,ly]
    exact hth
   ·rw[if_neg (fun z=>by' z.2),if_pos bx] at hth ⊢
    rw[lx,sqy by']
    exact fa hth mx
  ·rw[if_neg (fun z=>bx z.1),if_neg bx] at hth ⊢
   by_cases by':u.due=n'
   ·obtain⟨ly,my⟩:=Pf wi.y nT by' y
    rw[if_pos by'] at hth ⊢
    rw[ly,sqx bx]
    exact fa hth my
   ·rw[if_neg by'] at hth ⊢
    exact hth
 have px:=L7 wi.x dx1 dx2 hw' nT x
 have py:=L7 wi.y dy1 dy2 hw' nT y
 have epl:Yh t1 u1 w'=Yh t u n':=by
  unfold Yh
  rw[x.place h1 h2 (fun q=>wi'.x.mv1 q) hw',y.place h1 h2 (fun q=>wi'.y.mv1 q) hw',Td wi.x nT,Td wi.y nT]
 have ow:decide (w'=T')=false:=decide_eq_false (by lia)
 rcases w2 with q|⟨q,_⟩
 ·have hm:th.mir=false:=by rw[q];rfl
  rw[hm,if_neg (by decide)] at hl ⊢
  obtain⟨N,e⟩:=hb ha most _ _ tn' px py hl
  refine⟨N+1,?_⟩
  unfold wk
  rw[hf]
  dsimp only
  rw[ew,et,ow,q]
  rw[q] at e
  exact e
 ·have hm:th.mir=true:=by rw[q];rfl
  rw[hm,if_pos rfl,List.length_append,List.length_singleton] at hl
  rw[hm,if_pos rfl]
  obtain⟨N,e⟩:=hb ha most _ _ (tn'++[Yh t u n']) px py (by rw[List.length_append,List.length_singleton];lia)
  refine⟨N+1,?_⟩
  unfold wk
  rw[hf]
  dsimp only
  rw[ew,et,ow,epl,decide_eq_true (show tn'.length<most by lia),q]
  rw[q] at e
  rw[List.reverse_append]
  rw[List.append_assoc] at e
  exact e
end
def Zgl {w:Str}{p p':D}{l l':List D} (h:D.tup [.str w,p,.lst l]=.tup [.str (Str.ofString "end"),p',.lst l']):w=Str.ofString "end"/\p=p'/\l=l':=by
 injection h with h
 injection h with h1 h
 injection h1 with h1
 injection h with h2 h
 injection h with h3 h
 injection h3 with h3
 exact⟨h1,h2,h3⟩
section
variable {c1 c2 T T':Int}{W H:Nat}{ss:List Sd}{ps:List Po4}{P:D}{most:Nat}
theorem Zm0 {g1 g2:Int}(h1:0<c1)(h2:0<c2)(hT:c2*T'=c1*T){pt:D}{l:List D}:∀(n:Nat) (t u:Tk) (tn:List D) (now:Int),WS W H T now t u->Bk c1 c2 T T' W H ss ps P t u tn->(t.h≠0->g1 ∣ t.due/\g1 ∣ t.lap)->(u.h≠0->g2 ∣ u.due/\g2 ∣ u.lap) ->
  wk W H ss ps T most n t u tn=some (.tup [.str (Str.ofString "end"),pt,.lst l])->∃(t1 u1:Tk) (now1:Int) (tl:List D),l=tn++tl/\WS W H T now1 t1 u1/\Bk c1 c2 T T' W H ss ps P t1 u1 l/\Vq ps T t1 u1=none/\Zp t1 u1 T=T/\pt=Yh t1 u1 T /\
   t1.h=t.h*par 0 tl/\u1.h=u.h*par 1 tl/\t1.lap=t.lap/\u1.lap=u.lap/\(t1.h≠0->g1 ∣ t1.due/\g1 ∣ t1.lap)/\(u1.h≠0->g2 ∣ u1.due/\g2 ∣ u1.lap)
 |0,_,_,_,_,_,_,_,_,h=>by cases h
 |n+1,t,u,tn,now,wi,hb,dx,dy,h=>by
  unfold wk at h
  cases ha:Vq ps T t u with
  |some x=>
   obtain⟨p,xy⟩:=x
   rw[ha] at h
   injection h with h
   exact absurd (Zgl h).1 (by decide)
  |none=>
   rw[ha] at h
   dsimp only at h
   cases hw:Ji (thing W H ss t u (Zp t u T)) (decide (Zp t u T=T)) (decide (tn.length<most)) with
   |some w=>
    rw[hw] at h
    injection h with h
    obtain⟨rfl,rfl,rfl⟩:=Zgl h
    have no:Zp t u T=T:=by
     cases o:decide (Zp t u T=T) with
     |true=>exact of_decide_eq_true o
     |false=>rw[o] at hw;exact absurd rfl (Zcw hw)
    exact⟨t,u,now,[],(List.append_nil _).symm,wi,hb,ha,no,by rw[no],(Int.mul_one _).symm,(Int.mul_one _).symm,rfl,rfl,dx,dy⟩
   |none=>
    rw[hw] at h
    dsimp only at h
    have nx:=wi.nxt
    have nT:Zp t u T<T:=by have:=of_decide_eq_false (V9 hw).1;lia
    have tl:∃tl:List D,(if(thing W H ss t u (Zp t u T)).mir=true then tn++[Yh t u (Zp t u T)] else tn)=tn++tl/\(Qi t (Zp t u T) (thing W H ss t u (Zp t u T))).h=t.h*par 0 tl/\(Qi u (Zp t u T) (thing W H ss t u (Zp t u T))).h=u.h*par 1 tl:=by
     cases hm:(thing W H ss t u (Zp t u T)).mir with
     |false=>exact⟨[],by rw[List.append_nil];rfl,by rw[L3 hm];exact(Int.mul_one _).symm,by rw[L3 hm];exact(Int.mul_one _).symm⟩
     |true=>
      have k:=wi.turn nT hm
      exact⟨[Yh t u (Zp t u T)],rfl,k.1,k.2⟩
    have hb':=Zfu h1 h2 hT wi ha hw hb
    obtain⟨tl,etl,phx,phy⟩:=tl
    rw[etl] at h hb'
    obtain⟨t1,u1,now1,tl1,i1,i2,i3,i4,i5,i6,i7,i8,i9,i10,i11,i12⟩:=Zm0 h1 h2 hT n _ _ _ _ (wi.step hw) hb' (fun q=>Cy dx (pass_h.mp q)) (fun q=>Cy dy (pass_h.mp q)) h
    exact⟨t1,u1,now1,tl++tl1,by rw[i1,List.append_assoc],i2,i3,i4,i5,i6,by rw[i7,phx,Bv,Int.mul_assoc],by rw[i8,phy,Bv,Int.mul_assoc],by rw[i9,Jc],by rw[i10,Jc],i11,i12⟩
end
section
variable {z:Nat}{TA TC now a b a3 n3 m3 k3:Int}{t:Tk}
def Hq (wi:TI z TA now t)(hd:TA<=t.due)(hn:now<TA)(hpl:place t TA=nD n3 m3)(m1:1<m3)(h:t.h≠0):t.lap*(t.line*m3-n3)=t.h*(t.due-TA)*m3/\0<t.due-TA/\t.due-TA<t.lap/\0<m3/\n3/m3=t.sq/\n3%m3=n3-t.sq*m3:=by
 obtain⟨g1,L0⟩:=wi.mv1 h
 unfold place at hpl
 rw[if_neg h] at hpl
 obtain⟨p,q,ep,q0,e1,gq,_⟩:=Xv (t:=t.line*t.lap-t.h*(t.due-TA)) (b:=t.lap) L0
 rw[ep] at hpl
 obtain⟨rfl,rfl⟩:=Pd hpl
 have e2:t.lap*(t.line*q-p)=t.h*(t.due-TA)*q:=by grind
 have E1:t.due-TA<t.lap:=by
  rcases wi.mv with g|⟨_,_,_,g⟩
  ·exact absurd g.1 h
  ·lia
 have En:t.due-TA≠0:=fun w=>by
  rw[w,Int.mul_zero,Int.zero_mul] at e2
  have:=(Int.mul_eq_zero.mp e2).resolve_left (by lia)
  have:=F9 q0 gq (c:=t.line) (by lia)
  lia
 have E0:0<t.due-TA:=by lia
 refine⟨e2,E0,E1,q0,?_⟩
 generalize t.due-TA=E at *
 have bd:∀l:Int,t.lap*l=E*q->0<l/\l<q:=fun l e=>by
  constructor
  ·have:0<t.lap*l:=by rw[e];exact Int.mul_pos E0 q0
   exact Int.pos_of_mul_pos_right this L0
  ·have:t.lap*l<t.lap*q:=by rw[e];exact Int.mul_lt_mul_of_pos_right E1 q0
   exact Int.lt_of_mul_lt_mul_left this (by lia)
 unfold Tk.line Yn at e2
 rcases g1 with g|g
 ·rw[g,if_pos (by decide),Int.one_mul] at e2
  obtain⟨b1,b2⟩:=bd _ e2
  exact C1 (n:=p) (q:=t.sq) q0 (by rw[Int.add_mul] at b2;lia) (by lia)
 ·rw[g,if_neg (by decide)] at e2
  have e3:t.lap*(p-t.sq*q)=E*q:=by grind
  obtain⟨b1,b2⟩:=bd _ e3
  exact C1 (n:=p) (q:=t.sq) q0 (by lia) (by rw[Int.add_mul];lia)
def Zk3 {A L b TA q k3 l E:Int}(A0:A≠0)(L0:L≠0)(hl:L*A=b*TA)(k1:L*l=E*q):TA*(l*(b*k3))=q*A*k3*E:=by
 have e:L*(TA*(l*(b*k3)))=L*(q*A*k3*E):=by
  have e1:L*(TA*(l*(b*k3)))=(L*l)*(b*TA)*k3:=by grind
  rw[e1,k1,<-hl]
  grind
 exact Int.eq_of_mul_eq_mul_left L0 e
def Zgm (hTA:0<TA)(wi:TI z TA now t)(hd:TA<=t.due)(hn:now<TA)(hpl:place t TA=nD n3 m3)(m1:1<m3)(l0:t.h=0->t.lap=0)(ha:t.h=0↔a3=0)(hs:a3≠0->sg a3 = -t.h)(hl:a3≠0->t.lap*a3.natAbs=b*TA)(eC:a3≠0->TC=m3*a3.natAbs*k3):
  Rv TC TA TA TC t (Uw n3 m3 a3 b TC):=by
 by_cases h:t.h=0
 ·have h3:=ha.mp h
  rw[Bw h3]
  unfold place at hpl
  rw[if_pos h] at hpl
  obtain⟨e1,e2⟩:=Pd hpl
  refine⟨?_,by show(0:Int) = -t.h;lia,?_,.inr ⟨h,e1.symm,e2.symm,rfl⟩⟩
  ·show n3/m3=t.sq
   rcases wi.mv with⟨_,_,g⟩|⟨g,_⟩
   ·rw[g,e1,e2]
   ·lia
  ·show TA*0=TC*t.lap
   rw[l0 h,Int.mul_zero,Int.mul_zero]
 ·have a0:a3≠0:=fun q=>h (ha.mpr q)
  obtain⟨e2,E0,E1,m0,f1,f2⟩:=Hq wi hd hn hpl m1 h
  obtain⟨g,L0⟩:=wi.mv1 h
  have hs:=hs a0
  have hl:=hl a0
  have eC:=eC a0
  rw[S8 a0 m0 eC]
  have key:t.lap*Yl n3 m3 a3=(TA-t.due+t.lap)*m3:=by
   unfold Yl
   unfold Tk.line Yn at e2
   rw[f2]
   rcases g with g|g
   ·rw[g,if_pos (by decide),Int.one_mul] at e2
    rw[if_neg (by rcases Pm a0 with⟨z1,z2⟩|⟨z1,z2⟩<;>lia)]
    grind
   ·rw[g,if_neg (by decide)] at e2
    rw[if_pos (by rcases Pm a0 with⟨z1,z2⟩|⟨z1,z2⟩<;>lia)]
    grind
  refine⟨f1,hs,?_,.inl ⟨h,?_⟩⟩
  ·show TA*(b*(m3*k3))=TC*t.lap
   rw[eC]
   have e1:TA*(b*(m3*k3))=b*TA*(m3*k3):=by grind
   rw[e1,<-hl]
   grind
  ·show TA*(Yl n3 m3 a3*(b*k3))=TC*(TA-t.due+t.lap)
   rw[eC]
   exact Zk3 (by lia) (by lia) hl key
end
def Zc8 {w:Str}{pt:D}{tn:List D}(k1:U4 pt)(k2:∀x∈tn,U4 x):D.dep (.tup [.str w,pt,.lst tn])<=60:=by
 have:D.deps tn<=10:=Uu fun x hx=>C2 (k2 x hx)
 have:=C2 k1
 simp only[D.dep,D.deps]
 lia
noncomputable def Zm1:Zi->M O:=(Zx (Z5 5 (J2 V0 (Zb (Pu (Uj (Kj (Zd 1)) 1 [4] (Xf 0) (DL.tB (Zl Xg (Zl Yu (Zl Yu (Zd 0) (Zd 1)) ↑1) ↑1)) (Zd 0))) Zh)))
   (Vt 3 (Qq (Zb (Zl Qb (Zl Qb (Zl Yu (Zl Yu (Zd 0) (Zd 4)) ↑0) (Zd 2)) (Zl Yu (Xh (Zb ↑1 (Zb (E7 Wz ↑1) Zh))) (Zl Qa (Zd 5) ↑2))) (Zb (Zl Yu (Zl Yu (Zd 0) (Zd 4)) ↑1) Zh)))))
def Hr {k:Nat}(hk:k=0\/k=1){sD:D}{a b:Int}(es:Yu sD (.int (k:Int))=.ok (nD a b)){tn:List D}(ht:∀x∈tn,U4 x)(hl:tn.length<=1000)(hn:Fr 12 a b)(l:List D)(hll:l.length<=10)(v5:Option S):
  ∃w5:Option S,Zm1 [Io sD,Io (.lst tn),Jo (-1),some (.ow l),Jo (k:Int),v5]=.ok (.nx [Io sD,Io (.lst tn),Jo (-1),some (.ow (l++[nD (a * -1*par k tn) b])),Jo (k:Int),w5]):=by
 have ec:J2 V0 (Zb (Pu (Uj (Kj (Zd 1)) 1 [4] (Xf 0) (DL.tB (Zl Xg (Zl Yu (Zl Yu (Zd 0) (Zd 1)) ↑1) ↑1)) (Zd 0))) Zh) [Io sD,Io (.lst tn),Jo (-1),some (.ow l),Jo (k:Int),v5]=.ok (.int ((Zgk k tn:Nat):Int)):=by
  refine Xd (Law.a1 (O1 (α:=D) (fun d=>d) (fun d=>d) (fun d=>Zfm (Zkw k d)) (l:=tn) (by rw[List.map_id'];exact Sz (f:=Zd 1) rfl) (by lia) fun d hd=>?_)) ?_
  ·refine⟨_,rfl,?_,rfl⟩
   obtain⟨p,q,r,e,rfl,_⟩:=ht d hd
   rcases hk with rfl|rfl
   ·exact Qg (Zk (x:=.int q) (Z0 (Z0 rfl rfl (Yt _ _)) rfl (Xi _ _ _)) rfl (Q5 _ _))
   ·exact Qg (Zk (x:=.int e) (Z0 (Z0 rfl rfl (Xi _ _ _)) rfl (Xi _ _ _)) rfl (Q5 _ _))
  ·rw[List.map_id',Pa]
   rfl
 obtain⟨j,ej,ev⟩:=Zc4 k tn
 have n1:(a * -1).natAbs<=10 ^ 12:=by have:=hn.top;lia
 refine⟨_,go (Z1 ec) (N9 rfl (Kc (a:=.int (a * -1*par k tn)) (b:=.int b) ?_ ?_) (by lia))⟩
 ·refine Zk (x:=.int (a * -1)) (Zk (x:=.int a) (Z0 (Zk rfl rfl es) rfl (Yt _ _)) rfl (gT (Yi hn.top (by decide)) (B2 (by decide) (by decide)))) (Y1 (i:=(j:Int)) (Kd (ds:=[.int 1,.int (-1)]) rfl (Y8 (by show(2:Nat)<=1000000;decide))) (Zk (x:=.int ((Zgk k tn:Nat):Int)) rfl rfl (by rw[gM (by decide),ej])) (Xx ev)) (gT ?_ ?_)
  ·exact Yi n1 (by decide)
  ·rcases Ux k tn with q|q<;>rw[q]<;>exact B2 (by decide) (by decide)
 ·exact Z0 (Zk rfl rfl es) rfl (Xi _ _ _)
def L8 (s:Po4)(tn:List D):Po4:=⟨s.a * -1*par 0 tn,s.b,s.c * -1*par 1 tn,s.d⟩
def Zc9 {s:Po4}(hs:StOk s){tn:List D}(ht:∀x∈tn,U4 x)(hl:tn.length<=1000):K7 [s.D,.lst tn,.int (-1)]=.ok (.im (L8 s tn).D):=by
 obtain⟨w5,e1⟩:=Hr (k:=0) (.inl rfl) (sD:=s.D) (a:=s.a) (b:=s.b) rfl ht hl hs.x [] (by simp) none
 obtain⟨w6,e2⟩:=Hr (k:=1) (.inr rfl) (sD:=s.D) (a:=s.c) (b:=s.d) rfl ht hl hs.y [nD (s.a * -1*par 0 tn) s.b] (by simp) w5
 have rg:Yg (Zb ↑2 Zh) [Io s.D,Io (.lst tn),Jo (-1),some (.ow []),none,none]=.ok [.int 0,.int 1]:=Zik (n:=2) (Law.a1 rfl) (by decide)
 exact(Zga _ _ _ _ _).trans (Z6 (go (X3 3 _) (go (f:=Ka _ (Xf 4) Zm1) ((Ys rg).trans ((Ye rfl e1).trans ((Ye rfl e2).trans rfl))) (Vo (Z4 (Xd (Law.a1 rfl) rfl))))))
def Te {a e:Int}(he:e=1\/e = -1):(a * -1*e).natAbs=a.natAbs/\(a * -1*e=0↔a=0):=by
 rcases he with q|q<;>rw[q]<;>lia
def Zgn {a e:Int}(he:e=1\/e = -1)(h:a≠0):sg (a * -1*e) = -(sg a*e):=by
 have h':a * -1*e≠0:=fun z=>h ((Te he).2.mp z)
 rcases Pm h with⟨q,r⟩|⟨q,r⟩<;>rcases Pm h' with⟨q',r'⟩|⟨q',r'⟩<;>rcases he with g|g<;>rw[g] at r' q' ⊢<;>rw[q,q']<;>lia
def Zk4 {s:Po4}(hs:StOk s)(tn:List D):StOk (L8 s tn):=by
 obtain⟨a1,a2⟩:=Te (a:=s.a) (Ux 0 tn)
 obtain⟨c1,c2⟩:=Te (a:=s.c) (Ux 1 tn)
 have gg:∀{x y z:Int},x.natAbs=y.natAbs->Int.gcd y z=1->Int.gcd x z=1:=fun {x y z} h g=>by
  unfold Int.gcd at g ⊢
  rw[h]
  exact g
 refine⟨⟨hs.x.pos,by show(s.a * -1*par 0 tn).natAbs<=_;rw[a1];exact hs.x.top,hs.x.bot⟩,⟨hs.y.pos,by show(s.c * -1*par 1 tn).natAbs<=_;rw[c1];exact hs.y.top,hs.y.bot⟩,gg a1 hs.gx,gg c1 hs.gy,?_,?_,?_⟩
 ·rcases hs.n0 with z|z
  ·exact .inl fun q=>z (a2.mp q)
  ·exact .inr fun q=>z (c2.mp q)
 ·show((s.a * -1*par 0 tn).natAbs:Int)<=_
  rw[a1];exact hs.lx
 ·show((s.c * -1*par 1 tn).natAbs:Int)<=_
  rw[c1];exact hs.ly
def Zda {z:Nat}{TA now n3 m3 k b m:Int}{t:Tk}(z8:z<=8)(wi:TI z TA now t)(hd:TA<=t.due)(hn:now<TA)(hpl:place t TA=nD n3 m3)(m1:1<m3)(g:Int.gcd n3 m3=1)(k0:0<k)(b0:0<b)(b1:b<=1000000000)(p0:0<m)(p1:m<=10000)(lB:t.h≠0->t.lap=b*(m*k))(kd:t.h≠0->k ∣ t.due)(kT:t.h≠0->k ∣ TA):PB z n3 m3:=by
 by_cases h:t.h=0
 ·unfold place at hpl
  rw[if_pos h] at hpl
  obtain⟨e1,e2⟩:=Pd hpl
  rw[<-e1,<-e2]
  exact wi.pn
 ·obtain⟨_,_,_,m0,f1,_⟩:=Hq wi hd hn hpl m1 h
  have mb:=O2 h k0 b0 p0 (lB h) (kd h) (kT h) hpl
  have mb2:b*m<=1000000000*10000:=Int.mul_le_mul b1 p1 (by lia) (by decide)
  have e15:(10:Nat) ^ 15=1000000000000000:=rfl
  have s0:=wi.s0
  have s1:=wi.s1
  have h1:=Int.mul_ediv_add_emod n3 m3
  have h2:=Int.emod_nonneg n3 (show m3≠0 by lia)
  have h3:=Int.emod_lt_of_pos n3 (show 0<m3 by lia)
  have h4:=Int.mul_nonneg (show 0<=m3 by lia) (show 0<=n3/m3 by lia)
  have h5:m3*(n3/m3)<=m3*7:=Int.mul_le_mul_of_nonneg_left (by lia) (by lia)
  exact Zft ⟨by lia,by rw[e15];lia,by rw[e15];lia⟩ g m1 (by lia) (by lia)
def Zdb {z:Nat}{n m a b T k:Int}(hp:PB z n m)(hb:0<b)(hk:0<k)(e:a≠0->T=m*a.natAbs*k)(h:(Uw n m a b T).h≠0):(Uw n m a b T).due<(Uw n m a b T).lap:=by
 have a0:a≠0:=fun q=>h (mk_hz.mpr q)
 rw[S8 a0 hp.fr.pos (e a0)]
 obtain⟨l0,l1⟩:=Bx (a:=a) hp
 show Yl n m a*(b*k)<b*(m*k)
 have:=Int.mul_lt_mul_of_pos_right l1 (Int.mul_pos hb hk)
 rw[show b*(m*k)=m*(b*k) by grind]
 exact this
section
variable {W H:Nat}{ss:List Sd}{ps:List Po4}{p s:Po4}{m:Nat}
def back (hW:W<=8)(hH:H<=8)(hl:ss.length<=400)(hp:∀p∈ps,PtOk W H p)(hps:ps.length<=1000)(ho:PtOk W H p)(hs:StOk s)(b9:s.b<=1000000000)(d9:s.d<=1000000000)(hm:m<=1000):
  ∃(w:Str) (pt:D) (tn:List D),F_walk [Qt W H ss,.lst (ps.map Po4.D),p.D,s.D,.int m]=.ok (.im (.tup [.str w,pt,.lst tn]))/\U4 pt/\(∀x∈tn,U4 x)/\tn.length<=m /\
   (w=Str.ofString "end"->∀n3 m3 n4 m4:Int,pt=.tup [nD n3 m3,nD n4 m4]->1<m3->1<m4->∀m':Nat,tn.length<=m'->m'<=1000->F_walk [Qt W H ss,.lst (ps.map Po4.D),pt,(L8 s tn).D,.int m']=.ok (.im (.tup [.str (Str.ofString "end"),p.D,.lst tn.reverse]))):=by
 obtain⟨dA,fA,kA,wsA,eXA,eYA,tA,w,pt,tn,qA,v1,v2,v3⟩:=C5 (ss:=ss) hW hH hl hp hps ho.st hs hm
 subst qA
 refine⟨w,pt,tn,fA,v1,v2,v3,fun hw n3 m3 n4 m4 hpt m31 m41 m' l1 l2=>?_⟩
 subst hw
 have px:=ho.x.fr.pos
 have py:=ho.y.fr.pos
 generalize hTA:wT p s=TA at *
 have kx:0<p.d*m1 s.c:=Int.mul_pos py (L4 s.c).1
 have ky:0<p.b*m1 s.a:=Int.mul_pos px (L4 s.a).1
 have tC:0<wT ⟨n3,m3,n4,m4⟩ (L8 s tn):=by
  show 0<1*m3*m1 (L8 s tn).a*m4*m1 (L8 s tn).c
  rw[Int.one_mul]
  exact Int.mul_pos (Int.mul_pos (Int.mul_pos (by lia) (L4 _).1) (by lia)) (L4 _).1
 have hbs:Bk (wT ⟨n3,m3,n4,m4⟩ (L8 s tn)) TA TA (wT ⟨n3,m3,n4,m4⟩ (L8 s tn)) W H ss ps (Yh (Uw p.a p.b s.a s.b TA) (Uw p.c p.d s.c s.d TA) 0) (Uw p.a p.b s.a s.b TA) (Uw p.c p.d s.c s.d TA) []:=
  Zc7 tC tA (Int.mul_comm _ _) wsA (Zdb ho.x.pb hs.x.pos kx eXA) (Zdb ho.y.pb hs.y.pos ky eYA)
 have epl:Yh (Uw p.a p.b s.a s.b TA) (Uw p.c p.d s.c s.d TA) 0=p.D:=by
  unfold Yh
  rw[Cz ho.x.pb hs.x.pos fun z=>⟨_,kx,eXA z⟩,Cz ho.y.pb hs.y.pos fun z=>⟨_,ky,eYA z⟩]
  rfl
 rw[epl] at hbs
 obtain⟨t,u,now,tl,i1,i2,i3,i4,i5,i6,i7,i8,i9,i10,i11,i12⟩:=Zm0 (g1:=p.d*m1 s.c) (g2:=p.b*m1 s.a) tC tA (Int.mul_comm _ _) 2201 _ _ [] 0 wsA hbs
  (fun h=>Zc6 px (fun z=>eXA z) fun q=>h (mk_hz.mpr q)) (fun h=>Zc6 py (fun z=>eYA z) fun q=>h (mk_hz.mpr q)) kA
 rw[List.nil_append] at i1
 subst i1
 rw[hpt] at i6
 have pl1:place t TA=nD n3 m3:=by unfold Yh at i6;injection i6 with z;injection z with z1 z2;exact z1.symm
 have pl2:place u TA=nD n4 m4:=by unfold Yh at i6;injection i6 with z;injection z with _ z;injection z with z1 z2;exact z1.symm
 have q1:TA<=t.due:=by unfold Zp at i5;lia
 have q2:TA<=u.due:=by unfold Zp at i5;lia
 obtain⟨a,b,c,d,ep,fa,ga,fc',gc⟩:=v1
 rw[hpt] at ep
 have ep1:nD n3 m3=nD a b/\nD n4 m4=nD c d:=by injection ep with z;injection z with z1 z;injection z with z2 _;exact⟨z1,z2⟩
 obtain⟨ea,eb⟩:=Pd ep1.1
 obtain⟨ec,ed⟩:=Pd ep1.2
 rw[<-ea,<-eb] at ga
 rw[<-ec,<-ed] at gc
 have LA:=@Zc5 p.a p.b s.a s.b TA _ px eXA
 have LC:=@Zc5 p.c p.d s.c s.d TA _ py eYA
 have hax:t.h=0↔s.a=0:=by
  rw[i7,<-@mk_hz p.a p.b s.a s.b TA]
  rcases Ux 0 tn with z|z<;>rw[z]<;>lia
 have hay:u.h=0↔s.c=0:=by
  rw[i8,<-@mk_hz p.c p.d s.c s.d TA]
  rcases Ux 1 tn with z|z<;>rw[z]<;>lia
 have e4:(10:Nat) ^ 4=10000:=rfl
 have pb4:p.b<=10000:=by have:=ho.x.fr.bot;rw[e4] at this;lia
 have pd4:p.d<=10000:=by have:=ho.y.fr.bot;rw[e4] at this;lia
 have ax:=Te (a:=s.a) (Ux 0 tn)
 have ay:=Te (a:=s.c) (Ux 1 tn)
 have stx:PB W n3 m3:=Zda hW i2.x q1 i2.n1 pl1 m31 ga kx hs.x.pos b9 px pb4 (fun z=>by
  have z':s.a≠0:=fun q=>z (hax.mpr q)
  rw[i9,S8 z' px (eXA z')]) (fun z=>(i11 z).1) (fun z=>⟨p.b*s.a.natAbs,by rw[eXA fun q=>z (hax.mpr q)];exact Int.mul_comm _ _⟩)
 have sty:PB H n4 m4:=Zda hH i2.y q2 i2.n1 pl2 m41 gc ky hs.y.pos d9 py pd4 (fun z=>by
  have z':s.c≠0:=fun q=>z (hay.mpr q)
  rw[i10,S8 z' py (eYA z')]) (fun z=>(i12 z).1) (fun z=>⟨p.d*s.c.natAbs,by rw[eYA fun q=>z (hay.mpr q)];exact Int.mul_comm _ _⟩)
 obtain⟨dC,fC,kC,_,eXC,eYC,_⟩:=C5 (ss:=ss) (ps:=ps) (p:=⟨n3,m3,n4,m4⟩) (most:=m') hW hH hl hp hps ⟨stx,sty,stx.fr.bot,sty.fr.bot⟩ (Zk4 hs tn) l2
 have rx:Rv (wT ⟨n3,m3,n4,m4⟩ (L8 s tn)) TA TA (wT ⟨n3,m3,n4,m4⟩ (L8 s tn)) t (Uw n3 m3 (L8 s tn).a (L8 s tn).b (wT ⟨n3,m3,n4,m4⟩ (L8 s tn))):=
  Zgm tA i2.x q1 i2.n1 pl1 m31 (fun z=>by rw[i9];exact LA.1 (hax.mp z)) (hax.trans ax.2.symm) (fun z=>by
   have z':s.a≠0:=fun q=>z (ax.2.mpr q)
   show sg (s.a * -1*par 0 tn)=_
   rw[Zgn (Ux 0 tn) z',i7,(LA.2 z').2]) (fun z=>by
   have z':s.a≠0:=fun q=>z (ax.2.mpr q)
   show t.lap*((s.a * -1*par 0 tn).natAbs:Int)=_
   rw[ax.1,i9]
   exact(LA.2 z').1) eXC
 have ry:Rv (wT ⟨n3,m3,n4,m4⟩ (L8 s tn)) TA TA (wT ⟨n3,m3,n4,m4⟩ (L8 s tn)) u (Uw n4 m4 (L8 s tn).c (L8 s tn).d (wT ⟨n3,m3,n4,m4⟩ (L8 s tn))):=
  Zgm tA i2.y q2 i2.n1 pl2 m41 (fun z=>by rw[i10];exact LC.1 (hay.mp z)) (hay.trans ay.2.symm) (fun z=>by
   have z':s.c≠0:=fun q=>z (ay.2.mpr q)
   show sg (s.c * -1*par 1 tn)=_
   rw[Zgn (Ux 1 tn) z',i8,(LC.2 z').2]) (fun z=>by
   have z':s.c≠0:=fun q=>z (ay.2.mpr q)
   show u.lap*((s.c * -1*par 1 tn).natAbs:Int)=_
   rw[ay.1,i10]
   exact(LC.2 z').1) eYC
 obtain⟨N,eN⟩:=i3 i4 m' _ _ [] rx ry (by simpa using l1)
 have h1:=Rc _ (N+2201) _ _ _ _ (by lia) eN
 have h2:=Rc _ (N+2201) _ _ _ _ (by lia) kC
 rw[h1] at h2
 injection h2 with h2
 subst h2
 rw[hpt]
 exact fC
end
def Zk5 {f:Zi->M D}{i j k:Nat}{sd:Zi}{a b c:D}(h:f sd=.ok (.tup [a,b,c])):Ps f (K0 3 (Q0 (Xf i) (Q0 (Xf j) (Q0 (Xf k) Ve)))) sd=.ok (.nx (((sd.set i (Io a)).set j (Io b)).set k (Io c))):=by
 unfold Ps
 rw[h]
 rfl
def Zmm (m:Nat)(f:Zi->M O)(a0 a1 a2 a3 a4 a5:D):Ue 6 m f [a0,a1,a2,a3,a4,a5]=Nr (f ([some (S.im a0),some (S.im a1),some (S.im a2),some (S.im a3),some (S.im a4),some (S.im a5)]++List.replicate m none)):=rfl
noncomputable def bB:Zi->M O:=Xw (DL.tB (Zl W0 (Zv F_walk (Zb (Zd 0) (Zb (J2 La (Zb (Zd 1) Zh)) (Zb (Zd 8) (Zb (Zd 10) (Zb (Zd 12) Zh)))))) (Zd 11))) (Qr (eC (.bl false))) Q3
theorem Zdc {h:D}{pl:List D}{o2 o3 o4 o5 o6 o7 o9:Option S}{pt st due:D}(hd:due.dep<=60):∀(ms:List Nat) (v:Option S),(∀x∈ms,F_walk [h,.lst pl,pt,st,.int (x:Int)]=.ok (.im due))->∃w:Option S,
  Xa (Xf 12) bB (ms.map fun(x:Nat)=>D.int (x:Int)) [Io h,Io (.lst pl),o2,o3,o4,o5,o6,o7,Io pt,o9,Io st,Io due,v]=.ok (.nx [Io h,Io (.lst pl),o2,o3,o4,o5,o6,o7,Io pt,o9,Io st,Io due,w])
 |[],v,_=>⟨v,rfl⟩
 |x::ms,v,hx=>by
  obtain⟨w,e⟩:=Zdc (o2:=o2) (o3:=o3) (o4:=o4) (o5:=o5) (o6:=o6) (o7:=o7) (o9:=o9) hd ms (Jo (x:Int)) fun y hy=>hx y (List.mem_cons_of_mem _ hy)
  refine⟨w,(Ye rfl (Z2 (Qg (Zk (x:=due) (y:=due) (Zt (aC rfl (aC (Xd (Law.a1 rfl) rfl) (aC rfl (aC rfl (Law.a1 rfl))))) (hx x (List.mem_cons_self ..)) rfl) rfl ?_)))).trans e⟩
  rw[V7 hd,D.eq_refl]
  rfl
section
variable {W H:Nat}{ss:List Sd}{ps:List Po4}{p s:Po4}{m:Nat}
def Ht (hW:W<=8)(hH:H<=8)(hl:ss.length<=400)(hp:∀p∈ps,PtOk W H p)(hps:ps.length<=1000)(ho:PtOk W H p)(hs:StOk s)(b9:s.b<=1000000000)(d9:s.d<=1000000000)(hm:m<=1000)(ms:List Nat)(hms:∀x∈ms,m<=x/\x<=1000)(lms:ms.length<=10):
  Xu [Qt W H ss,.lst (ps.map Po4.D),p.D,s.D,.int (m:Int),.lst (ms.map fun(x:Nat)=>D.int (x:Int))]=.ok (.im (.bl true)):=by
 obtain⟨w,pt,tn,fA,v1,v2,v3,hb⟩:=back (ss:=ss) hW hH hl hp hps ho hs b9 d9 hm
 have cl:∀r:List (Option S),J2 La (Zb (Zd 1) Zh) (Io (Qt W H ss)::Io (.lst (ps.map Po4.D))::r)=.ok (.lst (ps.map Po4.D)):=fun r=>Xd (Law.a1 rfl) rfl
 have isw:=Zfo (wd:=w) v1 v2 (by lia)
 have tu:=Zc9 hs v2 (by lia)
 have vr:∀x∈tn.reverse,U4 x:=fun x hx=>v2 x (List.mem_reverse.mp hx)
 generalize hM:(ms.map fun(x:Nat)=>D.int (x:Int))=MS at *
 have t0:∀v10 v11 v12:Option S,DL.tB (Zl Xg (Zd 7) ↑"end") [Io (Qt W H ss),Io (.lst (ps.map Po4.D)),Io p.D,Io s.D,Jo (m:Int),Io (.lst MS),Io (.tup [.str w,pt,.lst tn]),Io (.str w),Io pt,Io (.lst tn),v10,v11,v12]=.ok (decide (w=Str.ofString "end")):=fun _ _ _=>
  Qg (Zk (x:=.str w) rfl rfl (Kg (by simp[D.dep])))
 obtain⟨a,b,c,d,ep,_⟩:=v1
 have t1:∀v10 v11 v12:Option S,DL.tB (Zl Gh (Zl Yu 8[0]! ↑1) ↑1) [Io (Qt W H ss),Io (.lst (ps.map Po4.D)),Io p.D,Io s.D,Jo (m:Int),Io (.lst MS),Io (.tup [.str w,pt,.lst tn]),Io (.str w),Io pt,Io (.lst tn),v10,v11,v12]=.ok (decide (1<b)):=fun _ _ _=>by
  rw[ep]
  refine Qg (Zk (x:=.int b) (Z0 (Z0 rfl rfl (Yt _ _)) rfl (Xi _ _ _)) rfl ?_)
  by_cases q:1<b
  ·rw[Cu q,decide_eq_true q]
  ·rw[F2 q,decide_eq_false q]
 have t2:∀v10 v11 v12:Option S,DL.tB (Zl Gh (Zl Yu 8[1]! ↑1) ↑1) [Io (Qt W H ss),Io (.lst (ps.map Po4.D)),Io p.D,Io s.D,Jo (m:Int),Io (.lst MS),Io (.tup [.str w,pt,.lst tn]),Io (.str w),Io pt,Io (.lst tn),v10,v11,v12]=.ok (decide (1<d)):=fun _ _ _=>by
  rw[ep]
  refine Qg (Zk (x:=.int d) (Z0 (Z0 rfl rfl (Xi _ _ _)) rfl (Xi _ _ _)) rfl ?_)
  by_cases q:1<d
  ·rw[Cu q,decide_eq_true q]
  ·rw[F2 q,decide_eq_false q]
 have tt:=fun v10 v11 v12=>Zca (t0 v10 v11 v12) (Zca (t1 v10 v11 v12) (t2 v10 v11 v12))
 have dd:D.dep (.tup [.str (Str.ofString "end"),p.D,.lst tn.reverse])<=60:=Zc8 ho.is vr
 have mid:∃w10 w11 w12:Option S,(Xw (DL.tA (DL.tB (Zl Xg (Zd 7) ↑"end")) (DL.tA (DL.tB (Zl Gh (Zl Yu 8[0]! ↑1) ↑1)) (DL.tB (Zl Gh (Zl Yu 8[1]! ↑1) ↑1)))) (Zx (Z5 10 (Zv K7 (Zb (Zd 3) (Zb (Zd 9) (Zb (E7 Wz ↑1) Zh)))))
   (Zx (Z5 11 (Qq (Zb ↑"end" (Zb (Zd 2) (Zb (Zbz (Zd 9)) Zh)))))
   (Ka (Kj (Zl Z8 (Xh (Zb (J2 V0 (Zb (Zd 9) Zh)) Zh)) (Zd 5))) (Xf 12) bB))) Q3) [Io (Qt W H ss),Io (.lst (ps.map Po4.D)),Io p.D,Io s.D,Jo (m:Int),Io (.lst MS),Io (.tup [.str w,pt,.lst tn]),Io (.str w),Io pt,Io (.lst tn),none,none,none]=.ok (.nx [Io (Qt W H ss),Io (.lst (ps.map Po4.D)),Io p.D,Io s.D,Jo (m:Int),Io (.lst MS),Io (.tup [.str w,pt,.lst tn]),Io (.str w),Io pt,Io (.lst tn),w10,w11,w12]):=by
  have tt:=tt none none none
  by_cases q:(decide (w=Str.ofString "end")&&(decide (1<b)&&decide (1<d)))=true
  ·rw[q] at tt
   rw[Bool.and_eq_true,Bool.and_eq_true] at q
   have hb:=hb (of_decide_eq_true q.1) a b c d ep (of_decide_eq_true q.2.1) (of_decide_eq_true q.2.2)
   obtain⟨w12,el⟩:=Zdc (h:=Qt W H ss) (pl:=ps.map Po4.D) (o2:=Io p.D) (o3:=Io s.D) (o4:=Jo (m:Int)) (o5:=Io (.lst MS)) (o6:=Io (.tup [.str w,pt,.lst tn])) (o7:=Io (.str w)) (o9:=Io (.lst tn)) (pt:=pt) (st:=(L8 s tn).D) dd (tn.length::ms) none fun x hx=>by
    rcases List.mem_cons.mp hx with rfl|hx
    ·exact hb _ (Nat.le_refl _) (by lia)
    ·have:=hms x hx
     exact hb _ (by lia) this.2
   have ei:Kj (Zl Z8 (Xh (Zb (J2 V0 (Zb (Zd 9) Zh)) Zh)) (Zd 5)) [Io (Qt W H ss),Io (.lst (ps.map Po4.D)),Io p.D,Io s.D,Jo (m:Int),Io (.lst MS),Io (.tup [.str w,pt,.lst tn]),Io (.str w),Io pt,Io (.lst tn),Io (L8 s tn).D,Io (.tup [.str (Str.ofString "end"),p.D,.lst tn.reverse]),none]=.ok ((tn.length::ms).map fun(x:Nat)=>D.int (x:Int)):=by
    rw[List.map_cons,hM]
    exact Sz (Zk (x:=.lst [.int (tn.length:Int)]) (y:=.lst MS) (Kd (Law.a1 (Xd (Law.a1 rfl) Pa)) (Y8 (by show(1:Nat)<=1000000;decide))) rfl (Ed (by rw[<-hM,List.length_map,List.length_singleton];lia)))
   exact⟨_,_,w12,Ql tt (go (Z1 (Zt (aC rfl (aC rfl (Law.a1 rfl))) tu rfl)) (go (Z1 (d:=.tup [.str (Str.ofString "end"),p.D,.lst tn.reverse]) (Pc rfl rfl rfl)) ((Ys ei).trans el)))⟩
  ·rw[Bool.eq_false_iff.mpr q] at tt
   exact⟨none,none,none,Z2 tt⟩
 obtain⟨w10,w11,w12,mid⟩:=mid
 exact(Zmm _ _ _ _ _ _ _ _).trans (Z6 (go (Z1 (Zt (aC rfl (aC (cl _) (aC rfl (aC rfl (Law.a1 rfl))))) fA rfl)) (go (Z2 (Sx (Qg (Zt (Law.a1 rfl) isw rfl)))) (go (Zk5 rfl) (go mid (Z4 rfl))))))
end
noncomputable def lB:Zi->M O:=(Zx (Z5 5 (Zv Wm (Zb (Zd 4) (Zb 1[0]! (Zb 1[1]! (Zb (Zd 3) (Zb (Zd 2) Zh)))))))
   (Zx (Z5 6 (Zl Qa (Zl Yb (Zd 4) ↑7) ↑13))
   (Xw (DL.tN (DL.tB (Zv Xu (Zb (Zd 1) (Zb (Zd 2) (Zb (Zd 3) (Zb (Zd 5) (Zb (Zd 6) (Zb (Xh (Zb (Zd 6) (Zb ↑12 Zh))) Zh))))))))) (Qr (eC (.bl false))) Q3)))
def Zdd (o0:Option S){W H:Nat}(hW:W<=8)(hH:H<=8){ss:List Sd}(hl:ss.length<=400){ps:List Po4}(hp:∀p∈ps,PtOk W H p)(hps:ps.length<=63){p:Po4}(ho:PtOk W H p)(c:Int)(v5 v6:Option S):∃w5 w6:Option S,
  lB [o0,Io (Qt W H ss),Io (.lst (ps.map Po4.D)),Io p.D,Jo c,v5,v6]=.ok (.nx [o0,Io (Qt W H ss),Io (.lst (ps.map Po4.D)),Io p.D,Jo c,w5,w6]):=by
 obtain⟨s,hs,e5⟩:=Zi1 c (.int W) (.int H) hW hH ho hp (by lia)
 obtain⟨m,em,hm⟩:=X5 (c/7) (m:=13) (by decide)
 have e6:Zl Qa (Zl Yb (Zd 4) ↑7) ↑13 [o0,Io (Qt W H ss),Io (.lst (ps.map Po4.D)),Io p.D,Jo c,Io s.D,v6]=.ok (.int (m:Int)):=Zk (Zk (x:=.int c) rfl rfl (Ci (by decide) (B2 (by decide) (by decide)))) rfl (by rw[gM (by decide),show c/7%13=(m:Int) from em])
 have ib:=Ht (ss:=ss) (m:=m) hW hH hl hp (by lia) ho hs.ok hs.x.b9 hs.y.b9 (by lia) [m,12] (fun x hx=>by
  rcases List.mem_cons.mp hx with rfl|hx
  ·exact⟨Nat.le_refl _,by lia⟩
  ·rw[List.mem_singleton.mp hx];exact⟨by lia,by decide⟩) (by simp)
 exact⟨_,_,go (Z1 (Zt (aC rfl (aC (Z0 rfl rfl (Yt _ _)) (aC (Z0 rfl rfl (Xi _ _ _)) (aC rfl (Law.a1 rfl))))) e5 rfl)) (go (Z1 e6) (Z2 (Sx (Qg (Zt (aC rfl (aC rfl (aC rfl (aC rfl (aC rfl (Law.a1 (Kd (ds:=[.int (m:Int),.int 12]) rfl (Y8 (by show(2:Nat)<=1000000;decide)))))))) ) ib rfl)))))⟩
theorem C7 (o0:Option S){W H:Nat}(hW:W<=8)(hH:H<=8){ss:List Sd}(hl:ss.length<=400){ps:List Po4}(hp:∀p∈ps,PtOk W H p)(hps:ps.length<=63){p:Po4}(ho:PtOk W H p):∀(cs:List Int) (v4 v5 v6:Option S),∃w4 w5 w6:Option S,
  Xa (Xf 4) lB (cs.map D.int) [o0,Io (Qt W H ss),Io (.lst (ps.map Po4.D)),Io p.D,v4,v5,v6]=.ok (.nx [o0,Io (Qt W H ss),Io (.lst (ps.map Po4.D)),Io p.D,w4,w5,w6])
 |[],v4,v5,v6=>⟨v4,v5,v6,rfl⟩
 |c::cs,v4,v5,v6=>by
  obtain⟨a5,a6,e⟩:=Zdd o0 hW hH hl hp hps ho c v5 v6
  obtain⟨w4,w5,w6,e2⟩:=C7 o0 hW hH hl hp hps ho cs (Jo c) a5 a6
  exact⟨w4,w5,w6,(Ye rfl e).trans e2⟩
noncomputable def gB:Zi->M O:=(Zx (Z5 5 (Zv Kr (Zb ↑2 (Zb (Zd 2) (Zb (Zd 4) Zh)))))
   (Xw (DL.tB (Zl Xl (Zd 5) (eC .non))) (Vt 3 (Zl Z8 (Zd 4) (Nn (DL.tB (Zl Xg (Zd 5) ↑0)) (Qq (Zb ↑"p" (Zb ↑"m" Zh))) (Qq (Zb ↑"m" (Zb ↑"p" Zh)))))) Q3))
theorem Ei (o0 o1:Option S)(H:Int):∀(es:List (Bool×Int×Int)) (ss:List Sd) (v4 v5:Option S),ss.length+es.length<=400->∃(ss':List Sd) (w4 w5:Option S),ss'.length<=ss.length+es.length /\
  Xa (Xf 4) gB (es.map eD) [o0,o1,Jo H,some (.ow (ss.map Sd.D)),v4,v5,none,none,none]=.ok (.nx [o0,o1,Jo H,some (.ow (ss'.map Sd.D)),w4,w5,none,none,none])
 |[],ss,v4,v5,_=>⟨ss,v4,v5,by simp,rfl⟩
 |(u,x,y)::es,ss,v4,v5,hl=>by
  rw[List.length_cons] at hl
  obtain⟨d,ed,hd⟩:=Zc2 2 H u x y
  have e5:Zv Kr (Zb ↑2 (Zb (Zd 2) (Zb (Zd 4) Zh))) [o0,o1,Jo H,some (.ow (ss.map Sd.D)),Io (Qu u x y),v5,none,none,none]=.ok d:=Zt (aC rfl (aC rfl (Law.a1 rfl))) ed rfl
  rcases hd with rfl|hd
  ·obtain⟨ss',w4,w5,h1,h2⟩:=Ei o0 o1 H es ss (Io (Qu u x y)) (Io .non) (by lia)
   exact⟨ss',w4,w5,by rw[List.length_cons];lia,(Ye (sd1:=[o0,o1,Jo H,some (.ow (ss.map Sd.D)),Io (Qu u x y),v5,none,none,none]) rfl (go (Z1 e5) (Z2 rfl))).trans h2⟩
  ·have e7:∃f1 g1:Bool,Nn (DL.tB (Zl Xg (Zd 5) ↑0)) (Qq (Zb ↑"p" (Zb ↑"m" Zh))) (Qq (Zb ↑"m" (Zb ↑"p" Zh))) [o0,o1,Jo H,some (.ow (ss.map Sd.D)),Io (Qu u x y),Io d,none,none,none]=.ok (.tup [fc f1,fc g1]):=by
    rcases hd with rfl|rfl
    ·exact⟨false,true,Vn (Qg (Zk rfl rfl (by rw[Q5];rfl))) (Kc rfl rfl)⟩
    ·exact⟨true,false,V6 (Qg (Zk rfl rfl (by rw[Q5];rfl))) (Kc rfl rfl)⟩
   obtain⟨f1,g1,e7⟩:=e7
   have cn:DL.tB (Zl Xl (Zd 5) (eC .non)) [o0,o1,Jo H,some (.ow (ss.map Sd.D)),Io (Qu u x y),Io d,none,none,none]=.ok true:=by rcases hd with rfl|rfl<;>rfl
   obtain⟨ss',w4,w5,h1,h2⟩:=Ei o0 o1 H es (ss++[Sd.mk u x y f1 g1]) (Io (Qu u x y)) (Io d) (by rw[List.length_append,List.length_singleton];lia)
   rw[List.length_append,List.length_singleton] at h1
   refine⟨ss',w4,w5,by rw[List.length_cons];lia,(Ye (sd1:=[o0,o1,Jo H,some (.ow (ss.map Sd.D)),Io (Qu u x y),v5,none,none,none]) rfl (go (Z1 e5) (Ql cn (N9 rfl (Zk rfl e7 (Eg u x y f1 g1)) (by rw[List.length_map];lia))))).trans ?_⟩
   rw[List.map_append] at h2
   exact h2
def Znm {es:List Int}(h:es.length=6):∃a b c d e f,es=[a,b,c,d,e,f]:=by
 match es,h with
 |[a,b,c,d,e,f],_=>exact⟨a,b,c,d,e,f,rfl⟩
def Zi3 (ns:List Int)(hns:ns.length<=63):Nb [.lst (ns.map D.int)]=.ok (.im (.bl true)):=by
 have f9:=Gd ns 9 hns
 have f8:=Gd ns 8 hns
 obtain⟨xs,hxs,_,en⟩:=Kw (cz ns 9) 6 (by decide)
 obtain⟨x0,x1,x2,x3,x4,x5,rfl⟩:=Znm hxs
 obtain⟨h,eh,hh⟩:=X5 x0 (m:=2) (by decide)
 obtain⟨r1,er1,hr1⟩:=X5 x1 (m:=2) (by decide)
 obtain⟨r2,er2,hr2⟩:=X5 x2 (m:=30) (by decide)
 obtain⟨r3,er3,hr3⟩:=X5 x3 (m:=13) (by decide)
 obtain⟨r4,er4,hr4⟩:=X5 x4 (m:=6) (by decide)
 obtain⟨es,le,ee⟩:=He (W:=2) (H:=1+h) (by decide) (by lia)
 obtain⟨p,okp,epp⟩:=Bq (W:=2) (H:=1+h) (by decide) (by decide) (by lia) (by lia) (show(3:Int)<=9 by decide) (by decide) (cz ns 8)
 have cH:((1+h:Nat):Int)=1+(h:Int):=by lia
 obtain⟨q,r,el,nn,_⟩:=S9 (t:=(r3:Int)-6) (b:=1+(r4:Int)) (by lia) (by lia) (by lia)
 have elow:Qf [.int ((r3:Int)-6),.int (1+(r4:Int))]=.ok (.im (nD q r)):=by
  rw[<-el]
  exact Lx (k:=12) ⟨by lia,by have e12:(10:Nat) ^ 12=1000000000000:=rfl;rw[e12];lia,by have e12:(10:Nat) ^ 12=1000000000000:=rfl;rw[e12];lia⟩ (by decide)
 obtain⟨F,eL,eF,hF0,hF1⟩:∃F:Int,([D.int 1,D.int (-1)])[r1]?=some (.int (if r1=0 then 1 else -1))/\F=(if r1=0 then 1 else -1)*(1020+(r2:Int))/\0<F.natAbs/\F.natAbs<=1050:=by
  have:r1=0\/r1=1:=by lia
  rcases this with z|z<;>subst z
  ·exact⟨_,rfl,rfl,by simp;lia,by simp;lia⟩
  ·exact⟨_,rfl,rfl,by simp;lia,by simp;lia⟩
 generalize hN:ns.map D.int=N at *
 have sok:StOk ⟨F,1,q,r⟩:=⟨⟨show(0:Int)<1 by decide,by have e12:(10:Nat) ^ 12=1000000000000:=rfl;rw[e12];show F.natAbs<=_;lia,show(1:Int).natAbs<=10 ^ 12 by decide⟩,nn.fr,Int.gcd_one,nn.g,.inl (fun z=>by dsimp only at z;lia),by show(F.natAbs:Int)<=1100*1;lia,by have:=nn.le;have:=nn.fr.pos;show(q.natAbs:Int)<=1100*r;lia⟩
 obtain⟨ss,w4,w5,l1,e4⟩:=Ei (Io (.lst N)) (Io (.lst [.int x0,.int x1,.int x2,.int x3,.int x4,.int x5])) (1+(h:Int)) es [] none none (by simp;lia)
 obtain⟨ts,lt,et⟩:=Hi ss (by simp at l1;lia)
 have ib:=Ht (W:=2) (H:=1+h) (ss:=ts) (ps:=[]) (p:=p) (m:=1000) (by decide) (by lia) (by simp at l1;lia) (fun _ z=>by cases z) (by decide) okp sok (show(1:Int)<=1000000000 by decide) nn.b9 (by decide) [] (fun _ z=>by cases z) (by decide)
 rw[cH] at ee epp ib
 have ix:∀(k:Nat) (v:D) (r:List (Option S)),[D.int x0,.int x1,.int x2,.int x3,.int x4,.int x5][k]?=some v->Zl Yu (Zd 1) (eC (.int (k:Int))) (Io (.lst N)::Io (.lst [.int x0,.int x1,.int x2,.int x3,.int x4,.int x5])::r)=.ok v:=fun k v r e=>Y1 (i:=(k:Int)) rfl rfl (Xx e)
 have e1:Zv Qd (Zb (Zv Yf (Zb (Zd 0) (Zb ↑9 Zh))) (Zb ↑6 Zh)) [Io (.lst N),none,none,none,none,none,none,none,none]=.ok (.lst [.int x0,.int x1,.int x2,.int x3,.int x4,.int x5]):=Zt (aC (Zt (aC rfl (Law.a1 rfl)) f9 rfl) (Law.a1 rfl)) en rfl
 have e2:∀r:List (Option S),Zl Z8 ↑1 (Zl Qa 1[0]! ↑2) (Io (.lst N)::Io (.lst [.int x0,.int x1,.int x2,.int x3,.int x4,.int x5])::r)=.ok (.int (1+(h:Int))):=fun r=>Zk rfl (Zk (x:=.int x0) (ix 0 _ _ rfl) rfl (gM (by decide))) (by rw[show x0%2=(h:Int) from eh];rfl)
 have e6:∀r:List (Option S),Zl Qb (Zl Yu (Xh (Zb ↑1 (Zb (E7 Wz ↑1) Zh))) (Zl Qa 1[1]! ↑2)) (Zl Z8 ↑1020 (Zl Qa 1[2]! ↑30)) (Io (.lst N)::Io (.lst [.int x0,.int x1,.int x2,.int x3,.int x4,.int x5])::r)=.ok (.int F):=fun r=>by
  rw[eF]
  refine Zk (x:=.int (if r1=0 then 1 else -1)) (y:=.int (1020+(r2:Int))) (Y1 (i:=(r1:Int)) (Kd (ds:=[.int 1,.int (-1)]) rfl (Y8 (by show(2:Nat)<=1000000;decide))) (Zk (x:=.int x1) (ix 1 _ _ rfl) rfl (by rw[gM (by decide),show x1%2=(r1:Int) from er1])) (Xx eL)) (Zk rfl (Zk (x:=.int x2) (ix 2 _ _ rfl) rfl (gM (by decide))) (by rw[show x2%30=(r2:Int) from er2];rfl)) (gT (by split<;>exact B2 (by decide) (by decide)) (B2 (by lia) (by lia)))
 have e7:∀r':List (Option S),Zv Qf (Zb (Zl DL.Jv (Zl Qa 1[3]! ↑13) ↑6) (Zb (Zl Z8 ↑1 (Zl Qa 1[4]! ↑6)) Zh)) (Io (.lst N)::Io (.lst [.int x0,.int x1,.int x2,.int x3,.int x4,.int x5])::r')=.ok (nD q r):=fun r'=>
  Zt (aC (d:=.int ((r3:Int)-6)) (Zk (Zk (x:=.int x3) (ix 3 _ _ rfl) rfl (gM (by decide))) rfl (by rw[show x3%13=(r3:Int) from er3];rfl)) (Law.a1 (d:=.int (1+(r4:Int))) (Zk rfl (Zk (x:=.int x4) (ix 4 _ _ rfl) rfl (gM (by decide))) (by rw[show x4%6=(r4:Int) from er4];rfl)))) elow rfl
 refine(Ze4 _ _ _).trans (Z6 (go (Z1 e1) (go (Z1 (e2 _)) (go (X3 3 _) (go (f:=Ka _ (Xf 4) gB) ((Ys (Sz (Zt (aC rfl (Law.a1 rfl)) ee rfl))).trans e4) (go (Z1 (e6 _)) (go (Z1 (Kc (Kc rfl rfl) (e7 _))) (go (Z1 (Zt (aC (Zt (aC rfl (Law.a1 rfl)) f8 rfl) (aC rfl (aC rfl (Law.a1 rfl)))) epp rfl)) (Vo (Z4 (Zt (aC (Pc rfl rfl (Xd (Law.a1 (d:=.lst (ts.map Sd.D)) (Xd (Law.a1 rfl) et)) rfl)) (aC (d:=.lst []) (Kd rfl (Y8 (by show(0:Nat)<=1000000;decide))) (aC rfl (aC rfl (aC rfl (Law.a1 (d:=.lst []) (Kd rfl (Y8 (by show(0:Nat)<=1000000;decide))))))))) ib rfl)))))))))))
def law_true (ns:List Int)(hns:ns.length<=63):Ls [.lst (ns.map D.int)]=.ok (.im (.bl true)):=by
 obtain⟨W,H,ss,ps,p,hW,hH,hl,hp,hps,ho,ed⟩:=Zfs ns hns
 have f9:=Gd ns 9 hns
 have f0:=Gd ns 0 hns
 have fl:=Zi3 ns hns
 obtain⟨cs,ec,lc⟩:=Hn ns (some 10) (some 17)
 obtain⟨es,hes,_,en⟩:=Kw (cz ns 0) 1 (by decide)
 obtain⟨x,rfl⟩:∃x,es=[x]:=by
  match es,hes with
  |[x],_=>exact⟨x,rfl⟩
 generalize hN:ns.map D.int=N at *
 have t0:DL.tB (Zl Xg (Zl Qa (Zl Yb (Zl Yu (Zv Qd (Zb (Zv Yf (Zb (Zd 0) (Zb ↑0 Zh))) (Zb ↑1 Zh))) ↑0) ↑3600) ↑16) ↑5) [Io (.lst N),none,none,none,none,none,none]=.ok (x/3600%16==5):=
  Qg (Zk (Zk (Zk (x:=.int x) (Y1 (Zt (aC (Zt (aC rfl (Law.a1 rfl)) f0 rfl) (Law.a1 rfl)) en rfl) rfl (Yt _ _)) rfl (Ci (by decide) (B2 (by decide) (by decide)))) rfl (gM (by decide))) rfl (Q5 _ _))
 cases hx:x/3600%16==5 with
 |true=>
  rw[hx] at t0
  exact(Ze4 _ _ _).trans (Z6 (Ya (Ql t0 (Z4 (Zt (Law.a1 rfl) fl rfl)))))
 |false=>
  rw[hx] at t0
  have sl:Do (Zd 0) (Xq ↑10) (Xq ↑17) [Io (.lst N),Io (Qt W H ss),Io (.lst (ps.map Po4.D)),Io p.D,none,none,none]=.ok (.lst (cs.map D.int)):=by
   show M.ok (D.lst (Gn N (some 10) (some 17)))=_
   rw[ec]
  have ei:Kj (Zl Z8 (Xh (Zb (Zv Yf (Zb (Zd 0) (Zb ↑9 Zh))) Zh)) (Do (Zd 0) (Xq ↑10) (Xq ↑17))) [Io (.lst N),Io (Qt W H ss),Io (.lst (ps.map Po4.D)),Io p.D,none,none,none]=.ok ((cz ns 9::cs).map D.int):=
   Sz (Zk (Kd (Law.a1 (Zt (aC rfl (Law.a1 rfl)) f9 rfl)) rfl) sl (Ed (xs:=[.int (cz ns 9)]) (by rw[List.length_map,List.length_singleton];lia)))
  obtain⟨w4,w5,w6,e2⟩:=C7 (Io (.lst N)) hW hH hl hp hps ho (cz ns 9::cs) none none none
  exact(Ze4 _ _ _).trans (Z6 (go (Z2 t0) (go (Zk5 (Zt (Law.a1 rfl) ed rfl)) (go (f:=Ka _ (Xf 4) lB) ((Ys ei).trans e2) (Z4 rfl)))))
end Law
namespace PySem.W.Fast
def tw3468309572556648139:=0
def tw11297617659504782877:=0
def tw3062820031939892614:=0
def tw9436376507042663067:=0
def tw4546649035558146638:=0
def tw12560116063092476667:=0
def tw14358293982272868758:=0
def tw13103954450095641460:=0
def tw3671681977558532013:=0
def tw9913295500803271418:=0
def tw4179176927404466537:=0
def tw1025453577773758434:=0
def tw12357682041718914255:=0
def tw6993594782213345042:=0
end PySem.W.Fast
open PySem PySem.W PyProof.Rows
-- LAST
set_option maxRecDepth 100000 in
set_option maxHeartbeats 0 in
theorem PySem.Challenge.cw_selfsight_k19_whole_back_again_holds : PySem.Challenge.rw_selfsight_k19_whole_back_again.Holds := by
  w_on; o_law; k_head; (case hw => w_witness2)
  k_fill
  refine Law.walk (l := PySem.Challenge.rw_selfsight_k19_whole_back_again) rfl rfl Law.law_true (fun w h Y => PySem.W.kIn_of Y) ?F
  case F =>
    intro w mg fa h KX G hmg
    refine' Law.all_mk KX G hmg ?t0 ?t1 ?t2 ?t3 ?t4 ?t5 ?t6 ?t7 ?t8 ?t9 ?t10 ?t11 ?t12 ?t13 ?t14 ?t15 ?t16 ?t17 ?t18 ?t19 ?t20 ?t21 ?t22 ?t23 ?t24 ?t25 ?t26 ?t27 ?t28 ?t29 ?t30 ?t31 ?t32 ?t33 ?t34 ?t35 ?t36 ?t37 ?t38 ?t39 ?t40 ?t41 ?t42 ?t43 ?t44 ?t45 ?t46 ?t47 ?t48 ?t49 ?t50 ?t51 ?t52 ?t53 ?t54 ?t55 ?t56 ?t57 ?t58 ?t59 ?t60 ?t61 ?t62 ?t63 ?t64 ?t65 ?t66 ?t67 ?t68 ?t69 ?t70 ?t71 ?t72 ?t73 ?t74 ?t75 ?t76 ?t77 ?t78 ?t79 ?t80 ?t81 ?t82
    case t0 | t1 | t2 | t3 | t4 | t5 | t6 | t7 | t8 | t9 | t10 | t11 | t12 | t13 | t14 | t15 | t16 | t17 | t18 | t19 | t20 | t21 | t22 | t23 | t24 | t25 | t26 | t27 | t28 | t29 | t30 | t31 | t32 | t33 | t34 | t35 | t36 => refine' DL.dm_mk KX G ?a ?l ?c ?k; (case a | l | c | k => k_is)
    case t37 | t38 => k_is
    case t39 | t40 | t41 | t42 | t43 | t44 | t45 | t46 | t47 => refine' DL.mm_mk ?a ?n ?l ?c ?k; (case a | n | l | c | k => k_is)
    case t48 | t49 | t50 | t51 | t52 | t53 | t54 | t55 | t56 | t57 | t58 | t59 | t60 | t61 | t62 | t63 | t64 | t65 | t66 | t67 | t68 | t69 | t70 | t71 | t72 | t73 | t74 | t75 | t76 | t77 | t78 | t79 | t80 | t81 | t82 => k_is

