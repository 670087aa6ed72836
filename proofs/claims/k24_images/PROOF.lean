import PyProof.Rows.All
import Wide.All
import OpenK.AllK
import Wide.FinOn
import Lean
import PyProof.EqAt
import PyProof.EqKinds
import PyProof.TupleCall
import PyProof.NeKinds
import PyProof.NsDelKeeps
import PyProof.ExcArgs
import PyProof.ExcAttrAll.ValueError
import PyProof.Rows.SortRunsK
import PyProof.CompUse
import PyProof.AutoSeq1
import PyProof.Rows.Range3
import PyProof.ListRange
import PyProof.TupleOfSeq
import PyProof.CollectIter
import KE.KRevIter
import PyProof.DictFindH
import PyProof.Walk
import PyProof.DictWalks
import PySem.Challenge.RW_selfsight_k24_images
set_option maxHeartbeats 4000000
set_option linter.all false
set_option maxRecDepth 100000
set_option Elab.async false
local macro_rules
 |`(tactic|trivial)=>`(tactic|exact Or.inr (Or.inr rfl))
local macro_rules
 |`(tactic|trivial)=>`(tactic|exact Or.inr (Or.inl rfl))
local macro_rules
 |`(tactic|trivial)=>`(tactic|exact Or.inr rfl)
local macro_rules
 |`(tactic|trivial)=>`(tactic|exact Or.inl rfl)
namespace L2
open PySem PySem.Spec PyProof.Rows
abbrev Yo:=Sum Int Str
def Lm:Yo->Value->Bool
 |.inl k,v=>Value.isInt k v
 |.inr x,v=>Value.isStrOf x v
def Znj (w:World):Yo->Int
 |.inl k=>hashInt k
 |.inr x=>hashStr w x
def Yp:∀{k:Yo}{v:Value},Lm k v=true->(∃i t,k=Sum.inl i/\v=Value.int i t)\/(∃x t,k=Sum.inr x/\v=Value.str x t)
 |.inl i,v,h=>by
  obtain⟨t,e⟩:=Value.isInt_shape (k:=i) (v:=v) h
  exact .inl ⟨i,t,rfl,e⟩
 |.inr x,v,h=>by
  obtain⟨t,e⟩:=Value.isStrOf_shape (x:=x) (v:=v) h
  exact .inr ⟨x,t,rfl,e⟩
def Ob (i:Int)(t:Tok):Lm (.inl i) (.int i t)=true:=by simp[Lm,Value.isInt]
def Oc (x:Str)(t:Tok):Lm (.inr x) (.str x t)=true:=by simp[Lm,Value.isStrOf]
def Zia (a b:Int):decide ((Sum.inl a:Yo)=Sum.inl b)=(a==b):=by
 by_cases e:a=b
 ·subst e;simp
 ·have h:¬(Sum.inl a:Yo)=Sum.inl b:=fun q=>e (Sum.inl.inj q)
  rw[decide_eq_false h]
  exact(beq_eq_false_iff_ne.mpr e).symm
def Zib (a b:Str):decide ((Sum.inr a:Yo)=Sum.inr b)=decide (a=b):=by
 by_cases e:a=b
 ·subst e;simp
 ·have h:¬(Sum.inr a:Yo)=Sum.inr b:=fun q=>e (Sum.inr.inj q)
  rw[decide_eq_false h,decide_eq_false e]
def Zic (a:Int)(b:Str):decide ((Sum.inl a:Yo)=Sum.inr b)=false:=decide_eq_false (fun q=>nomatch q)
def Zid (a:Str)(b:Int):decide ((Sum.inr a:Yo)=Sum.inl b)=false:=decide_eq_false (fun q=>nomatch q)
def Y4 (prog:Program)(w:World):PySem.KeyKind prog w Yo where
 is:=Lm
 hash:=Znj w
 inj:=fun v a b ha hb=>by
  rcases Yp ha with⟨i,t,rfl,rfl⟩|⟨x,t,rfl,rfl⟩
  ·rcases Yp hb with⟨j,u,rfl,e⟩|⟨y,u,rfl,e⟩
   ·injection e with e1 _;rw[e1]
   ·exact nomatch e
  ·rcases Yp hb with⟨j,u,rfl,e⟩|⟨y,u,rfl,e⟩
   ·exact nomatch e
   ·injection e with e1 _;rw[e1]
 byValue:=fun k v h=>by
  rcases Yp h with⟨i,t,rfl,rfl⟩|⟨x,t,rfl,rfl⟩<;>rfl
 pyHash:=fun hv h=>by
  rcases Yp hv with⟨i,t,rfl,rfl⟩|⟨x,t,rfl,rfl⟩
  ·exact wpAny_pyHash_int h
  ·exact wpAny_pyHash_str h
 eqBool:=fun hu hv h=>by
  rcases Yp hu with⟨i,t,rfl,rfl⟩|⟨x,t,rfl,rfl⟩
  ·rcases Yp hv with⟨j,u,rfl,rfl⟩|⟨y,u,rfl,rfl⟩
   ·rw[Zia] at h;exact wpAny_eqBool_int h
   ·rw[Zic] at h;exact SeqAt.EqAt.int_str i t y u _ _ _ _ h
  ·rcases Yp hv with⟨j,u,rfl,rfl⟩|⟨y,u,rfl,rfl⟩
   ·rw[Zid] at h;exact SeqAt.EqAt.str_int x t j u _ _ _ _ h
   ·rw[Zib] at h;exact wpAny_eqBool_str h
 «strs»:=fun k x t v h=>by
  rcases Yp h with⟨i,u,rfl,e⟩|⟨y,u,rfl,e⟩
  ·exact nomatch e
  ·injection e with e1 _
   subst e1
   cases v<;>rfl
def Aq (prog:Program)(w:World)(i:Int)(t:Tok):(Y4 prog w).is (.inl i) (.int i t)=true:=Ob i t
def Ar (prog:Program)(w:World)(x:Str)(t:Tok):(Y4 prog w).is (.inr x) (.str x t)=true:=Oc x t
inductive V where
 |non|bl (b:Bool)|int (i:Int)|str (x:Str)|byt (b:Array UInt8)|flt (b:UInt64)|ref (a:Addr)|ty (n:String)
 deriving DecidableEq
def RelV:V->Value->Prop
 |.non,u=>u=Value.none
 |.bl b,u=>u=Value.bool b
 |.int i,u=>∃t,u=Value.int i t
 |.str x,u=>∃t,u=Value.str x t
 |.byt b,u=>∃t,u=Value.bytes b t
 |.flt b,u=>∃t,u=Value.float b t
 |.ref a,u=>u=Value.ref a
 |.ty n,u=>u=Value.type n
abbrev Vals:List V->List Value->Prop:=Paired RelV
theorem Vals.length {xs:List V}{us:List Value}(r:Vals xs us):xs.length=us.length:=Paired.length r
theorem Vals.get:∀{xs:List V}{us:List Value}{i:Nat}{x:V},Vals xs us->xs[i]?=some x->∃u,us[i]?=some u/\RelV x u
 |_,_,_,_,.nil,e=>by simp at e
 |_,_,0,_,.cons r _,e=>by simp at e;subst e;exact⟨_,rfl,r⟩
 |_,_,i+1,x,.cons _ t,e=>by
  obtain⟨u,h1,h2⟩:=Vals.get (i:=i) (x:=x) t (by simpa using e)
  exact⟨u,by simpa using h1,h2⟩
theorem Vals.append:∀{xs ys:List V}{us ws:List Value},Vals xs us->Vals ys ws->Vals (xs++ys) (us++ws)
 |_,_,_,_,.nil,s=>s
 |_,_,_,_,.cons r t,s=>.cons r (Vals.append t s)
theorem Vals.take:∀{xs:List V}{us:List Value} (n:Nat),Vals xs us->Vals (xs.take n) (us.take n)
 |_,_,0,_=>.nil
 |_,_,_+1,.nil=>.nil
 |_,_,n+1,.cons r t=>.cons r (Vals.take n t)
theorem Vals.drop:∀{xs:List V}{us:List Value} (n:Nat),Vals xs us->Vals (xs.drop n) (us.drop n)
 |_,_,0,r=>r
 |_,_,_+1,.nil=>.nil
 |_,_,n+1,.cons _ t=>Vals.drop n t
def Vals.none_of:∀{xs:List V}{us:List Value}{i:Nat},Vals xs us->xs[i]?=none->us[i]?=none:=fun {xs us i} r e=>by
 have h1:=r.length
 have h2:xs.length<=i:=List.getElem?_eq_none_iff.mp e
 exact List.getElem?_eq_none_iff.mpr (by omega)
def RelO:Option V->Option Value->Prop
 |some v,some u=>RelV v u
 |none,none=>True
 |_,_=>False
def KV {κ:Type}:List (κ×V)->List (κ×Value)->Prop:=Paired fun(p:κ×V) (q:κ×Value)=>p.1=q.1/\RelV p.2 q.2
def kV:Yo->V
 |.inl i=>.int i
 |.inr x=>.str x
inductive HO where
 |lst (xs:List V)
 |tup (xs:List V)
 |dK (kvs:List (Yo×V))|dT (kvs:List (List Yo×V))
 |set (S:Int->Bool) (n:Nat)
 |ins (C dx:Addr) (fs:List (Str×V))
 |own (x:Addr)
 |xd (fs:List (Str×V))
 |met (f x:Addr)
 |rng (lo hi:Int)
 |frz (o:Obj) (u:HO)
 |tbl (l c:Value) (q:Str)
 |ext (φ:Heap->Prop)
abbrev Hp:=Addr->Option HO
def upd (H:Hp)(a:Addr)(o:HO):Hp:=fun b=>if b=a then some o else H b
def Zo {H:Hp}{a:Addr}{o:HO}:upd H a o a=some o:=by unfold upd;rw[if_pos rfl]
def Zm {H:Hp}{a b:Addr}{o:HO}(h:b≠a):upd H a o b=H b:=by unfold upd;rw[if_neg h]
def Zhh {H:Hp}{a b:Addr}{o u:HO}(h:H a=some o)(h':H b=some u)(d:o≠u):a≠b:=by
 intro e;subst e;rw[h] at h';exact d (Option.some.inj h')
def Zw {H:Hp}{a b:Addr}{o:HO}(h:H a=some o)(h':H b=none):a≠b:=by
 intro e;subst e;rw[h] at h';cases h'
section
variable (P:Program) (w:World)
def ObjOk (H:Hp)(h:Heap)(a:Addr):HO->Prop
 |.lst xs=>xs.length<=sizeLine/\∃(its:List Value) (n:Nat),Vals xs its/\h.get? a=some {cls:=.type "list", data:=.seq its.toArray n}
 |.tup xs=>xs.length<=sizeLine/\∃its:List Value,Vals xs its/\IsTup h a its.toArray
 |.dK kvs=>kvs.length<=sizeLine/\(a==sysModules)=false/\∃vs,KV kvs vs/\h.DictOf (Y4 P w) a vs
 |.dT kvs=>kvs.length<=sizeLine/\(a==sysModules)=false/\∃xs:List (List Yo×Addr×Value),
   Paired (fun(p:List Yo×V) (q:List Yo×Addr×Value)=>p.1=q.1/\H q.2.1=some (.tup (p.1.map kV))/\RelV p.2 q.2.2) kvs xs /\
   ∃o es ep,h.get? a=some o/\o.ExactDict/\o.data=.dict es ep/\es.toList=xs.map (entryOfKey (tupleKind (Y4 P w)))/\(xs.map (·.1)).Nodup
 |.set S n=>h.SetOf (intKind P w) a S n
 |.ins C dx fs=>H dx=some (.own a)/\fs.length<=1000/\dx≠a/\h.get? a=some (PySem.W.instObj C dx) /\
   ∃mA,h.Ns1 dx mA/\(∀f,RelO (fs.lookup f) (mA f))/\PySem.Within mA (fs.map (·.1))
 |.own _=>∃o,h.get? a=some o
 |.xd fs=>∃mA,h.Ns1 a mA/\∀f,RelO (fs.lookup f) (mA f)
 |.rng lo hi=>∃t u v,h.get? a=some {cls:=.type "range", data:=.fields #[.int lo t,.int hi u,.int 1 v]}
 |.frz o u=>h.get? a=some o/\ObjOk H h a u
 |.tbl l c q=>∃ps:Array Value,h.get? a=some {cls:=.none,data:=.fields ps}/\(ps=#[]\/∃(b:Addr) (ob:Obj) (vs:Array Value) (t:Tok),ps=#[l,c,.ref b]/\H b=some (.frz ob (.own 0))/\ob.data=.fields vs/\vs[1]?=some (.str q t))
 |.met f x=>h.get? a=some (PySem.W.methodObj (.ref f) (.ref x))
 |.ext φ=>φ h/\(∃o,h.get? a=some o)/\∀h1 h2:Heap,φ h1->(∀o,h1.get? a=some o->h2.get? a=some o)->φ h2
def HOk (H:Hp)(h:Heap):Prop:=∀a o,H a=some o->ObjOk P w H h a o
end
section
variable {P:Program}{w:World}{H H':Hp}{h h':Heap}{a:Addr}{o:HO}
theorem ObjOk.lt (x:ObjOk P w H h a o):a<h.objs.size:=by
 cases o with
 |lst xs=>obtain⟨_,_,_,_,e⟩:=x;exact Heap.lt_size e
 |tup xs=>obtain⟨_,_,_,p⟩:=x;exact p.lt
 |dK kvs=>obtain⟨_,_,_,_,o,_,_,e,_⟩:=x;exact Heap.lt_size e
 |dT kvs=>obtain⟨_,_,_,_,o,_,_,e,_⟩:=x;exact Heap.lt_size e
 |set S n=>obtain⟨o,_,_,_,e,_⟩:=x;exact Heap.lt_size e
 |ins C dx fs=>obtain⟨_,_,_,e,_⟩:=x;exact Heap.lt_size e
 |own y=>obtain⟨_,e⟩:=x;exact Heap.lt_size e
 |xd fs=>obtain⟨_,⟨_,_,_,e,_⟩,_⟩:=x;exact Heap.lt_size e
 |rng lo hi=>obtain⟨_,_,_,e⟩:=x;exact Heap.lt_size e
 |frz ob u=>obtain⟨e,_⟩:=x;exact Heap.lt_size e
 |tbl l c q=>obtain⟨_,e,_⟩:=x;exact Heap.lt_size e
 |met f y=>exact Heap.lt_size (show h.get? a=some _ from x)
 |ext φ=>obtain⟨_,⟨_,e⟩,_⟩:=x;exact Heap.lt_size e
theorem Paired.mapP {α β:Type}{F G:α->β->Prop}:∀{l₁:List α}{l₂:List β},Paired F l₁ l₂->(∀a b,F a b->G a b)->Paired G l₁ l₂
 |_,_,.nil,_=>.nil
 |_,_,.cons r t,f=>.cons (f _ _ r) (Paired.mapP t f)
def ObjOk.stay (x:ObjOk P w H h a o)(k:∀b u,(b=a\/H b=some (.own a))->h.get? b=some u->h'.get? b=some u)(ho:∀b,H b=some (.own a)->H' b=some (.own a))(ht:∀b xs,H b=some (.tup xs)->H' b=some (.tup xs))(hz:∀b o u,H b=some (.frz o u)->H' b=some (.frz o u)):ObjOk P w H' h' a o:=by
 induction o with
 |lst xs=>obtain⟨z,its,n,r,e⟩:=x;exact⟨z,its,n,r,k _ _ (.inl rfl) e⟩
 |tup xs=>obtain⟨z,its,r,ob,e,c⟩:=x;exact⟨z,its,r,ob,k _ _ (.inl rfl) e,c⟩
 |dK kvs=>obtain⟨z,y,vs,r,ob,es,ep,e,c⟩:=x;exact⟨z,y,vs,r,ob,es,ep,k _ _ (.inl rfl) e,c⟩
 |dT kvs=>
  obtain⟨z,y,xs,r,ob,es,ep,e,c⟩:=x
  exact⟨z,y,xs,Paired.mapP r fun p q z=>⟨z.1,ht _ _ z.2.1,z.2.2⟩,ob,es,ep,k _ _ (.inl rfl) e,c⟩
 |set S n=>obtain⟨ob,es,ep,t,e,c⟩:=x;exact⟨ob,es,ep,t,k _ _ (.inl rfl) e,c⟩
 |ins C dx fs=>
  obtain⟨d,z,ne,e,mA,⟨od,es,ep,e2,c⟩,r⟩:=x
  exact⟨ho _ d,z,ne,k _ _ (.inl rfl) e,mA,⟨od,es,ep,k _ _ (.inr d) e2,c⟩,r⟩
 |own y=>obtain⟨ob,e⟩:=x;exact⟨ob,k _ _ (.inl rfl) e⟩
 |xd fs=>obtain⟨mA,⟨od,es,ep,e,c⟩,r⟩:=x;exact⟨mA,⟨od,es,ep,k _ _ (.inl rfl) e,c⟩,r⟩
 |rng lo hi=>obtain⟨t,u,v,e⟩:=x;exact⟨t,u,v,k _ _ (.inl rfl) e⟩
 |frz ob u ih=>obtain⟨e,q⟩:=x;exact⟨k _ _ (.inl rfl) e,ih q⟩
 |tbl l c q=>
  obtain⟨ps,e,r⟩:=x
  refine⟨ps,k a _ (.inl rfl) e,?_⟩
  rcases r with r|⟨b,ob,vs,t,r1,r2,r3⟩
  ·exact .inl r
  ·exact .inr ⟨b,ob,vs,t,r1,hz _ _ _ r2,r3⟩
 |met f y=>
  have e:h.get? a=some (PySem.W.methodObj (.ref f) (.ref y)):=x
  show h'.get? a=some (PySem.W.methodObj (.ref f) (.ref y))
  exact k a _ (.inl rfl) e
 |ext φ=>obtain⟨p,⟨o,e⟩,st⟩:=x;exact⟨st _ _ p fun o q=>k _ _ (.inl rfl) q,⟨o,k _ _ (.inl rfl) e⟩,st⟩
theorem HOk.lt (x:HOk P w H h)(e:H a=some o):a<h.objs.size:=(x a o e).lt
def HOk.fresh (x:HOk P w H h)(e:h.objs.size<=a):H a=none:=by
 cases q:H a with
 |none=>rfl
 |some u=>exact absurd (Nat.lt_of_lt_of_le (x.lt q) e) (Nat.lt_irrefl _)
def HOk.kept (x:HOk P w H h)(k:∀b u,h.get? b=some u->h'.get? b=some u):HOk P w H h':=fun a o e=>
 (x a o e).stay (fun b u _ q=>k b u q) (fun _ q=>q) (fun _ _ q=>q) fun _ _ _ q=>q
def HOk.laid (x:HOk P w H h)(k:∀b u,h.get? b=some u->h'.get? b=some u)(hp:h.objs.size<=a)(new:ObjOk P w (upd H a o) h' a o):HOk P w (upd H a o) h':=fun b u e=>by
 have hn:=x.fresh hp
 by_cases hb:b=a
 ·subst hb;rw[Zo] at e;cases e;exact new
 ·rw[Zm hb] at e
  exact(x b u e).stay (fun c v _ q=>k c v q) (fun c q=>by rw[Zm (Zw q hn)];exact q) (fun c xs q=>by rw[Zm (Zw q hn)];exact q) fun c _ _ q=>by rw[Zm (Zw q hn)];exact q
end
def Rd (H:Hp)(a:Addr)(u:HO):Prop:=H a=some u\/∃o,H a=some (.frz o u)
def Rd.ok {P:Program}{w:World}{H:Hp}{h:Heap}{a:Addr}{u:HO}(r:Rd H a u)(x:HOk P w H h):ObjOk P w H h a u:=by
 rcases r with r|⟨o,r⟩
 ·exact x a u r
 ·obtain⟨_,q⟩:=x a _ r
  exact q
def Zk6:Option HO->Prop
 |some (.lst _)=>True
 |some (.dK _)=>True
 |some (.dT _)=>True
 |some (.set _ _)=>True
 |some (.ins _ _ _)=>True
 |some (.ext _)=>True
 |_=>False
section
variable {P:Program}{w:World}{H:Hp}{h h':Heap}{x e:Addr}{o':HO}
def HOk.write (ok:HOk P w H h)(mu:Zk6 (H x))(he:e=x\/H e=some (.own x))(k:∀b u,b≠e->h.get? b=some u->h'.get? b=some u)(heo:∃u,h'.get? e=some u)(new:ObjOk P w (upd H x o') h' x o'):HOk P w (upd H x o') h':=fun b u q=>by
 have nown:∀c y,H c=some (.own y)->c≠x:=fun c y r z=>by subst z;rw[r] at mu;exact mu
 have ntup:∀c xs,H c=some (.tup xs)->c≠x:=fun c xs r z=>by subst z;rw[r] at mu;exact mu
 have nfrz:∀c o u,H c=some (.frz o u)->c≠x:=fun c o u r z=>by subst z;rw[r] at mu;exact mu
 by_cases hb:b=x
 ·subst hb;rw[Zo] at q;cases q;exact new
 ·rw[Zm hb] at q
  by_cases hbe:b=e
  ·have q':H b=some (.own x):=by
    rcases he with z|z
    ·exact absurd (hbe.trans z) hb
    ·rw[hbe];exact z
   rw[q] at q';cases q'
   obtain⟨v,hv⟩:=heo
   exact⟨v,by rw[hbe];exact hv⟩
  ·refine(ok b u q).stay (fun c v hc r=>k c v ?_ r) (fun c r=>by rw[Zm (nown c b r)];exact r) (fun c xs r=>by rw[Zm (ntup c xs r)];exact r) fun c o u r=>by rw[Zm (nfrz c o u r)];exact r
   rcases hc with rfl|hc
   ·exact hbe
   ·rintro rfl
    rcases he with z|z
    ·exact nown c b hc z
    ·rw[hc] at z;cases z;exact hb rfl
end
structure Un (fs ex:List Addr) (H H':Hp) (h h':Heap):Prop where
 keep:∀b o,h.get? b=some o->H b=none->b ∉ fs->b ∉ ex->h'.get? b=some o
 slot:∀b o,h.get? b=some o->H b=none->b∈fs->b ∉ ex->∃sl,h'.get? b=some {o with slots:=sl}
 free:∀b o,h.get? b=some o->H b=none->b ∉ ex->H' b=none
 there:∀b o,h.get? b=some o->b ∉ ex->∃o',h'.get? b=some o'
 tups:∀b xs,H b=some (.tup xs)->H' b=some (.tup xs)
 frzs:∀b o u,H b=some (.frz o u)->H' b=some (.frz o u)
 tbls:∀b l c q,H b=some (.tbl l c q)->H' b=some (.tbl l c q)
section
variable {fs fs' ex ex':List Addr}{H H1 H2:Hp}{h h1 h2 h':Heap}{a x e:Addr}{o:HO}
def Un.any (u:Un fs ex H H1 h h1){b:Addr}{ob:Obj}(q:h.get? b=some ob)(n:H b=none)(hx:b ∉ ex):∃sl,h1.get? b=some {ob with slots:=sl}:=by
 by_cases hb:b∈fs
 ·exact u.slot b ob q n hb hx
 ·exact⟨ob.slots,u.keep b ob q n hb hx⟩
def Un.kept (k:∀b u,h.get? b=some u->h'.get? b=some u):Un fs ex H H h h':=
 ⟨fun b ob q _ _ _=>k b ob q,fun b ob q _ _ _=>⟨ob.slots,k b ob q⟩,fun _ _ _ n _=>n,fun b ob q _=>⟨ob,k b ob q⟩,fun _ _ q=>q,fun _ _ _ q=>q,fun _ _ _ _ q=>q⟩
def Un.refl:Un fs ex H H h h:=Un.kept fun _ _ q=>q
def Un.laid (k:∀b u,h.get? b=some u->h'.get? b=some u)(hp:h.objs.size<=a)(hn:H a=none):Un fs ex H (upd H a o) h h' where
 keep:=fun b u q _ _ _=>k b u q
 slot:=fun b u q _ _ _=>⟨u.slots,k b u q⟩
 free:=fun b u q n _=>by rw[Zm (Nat.ne_of_lt (Nat.lt_of_lt_of_le (Heap.lt_size q) hp))];exact n
 there:=fun b u q _=>⟨u,k b u q⟩
 tups:=fun b xs q=>by rw[Zm (Zw q hn)];exact q
 frzs:=fun b u xs q=>by rw[Zm (Zw q hn)];exact q
 tbls:=fun b l c r q=>by rw[Zm (Zw q hn)];exact q
def Un.write (mu:Zk6 (H x))(he:e=x\/H e=some (.own x))(k:∀b u,b≠e->h.get? b=some u->h'.get? b=some u)(heo:∃u,h'.get? e=some u):Un fs ex H (upd H x o) h h':=by
 have hx:∀b,H b=none->b≠x:=fun b n z=>by subst z;rw[n] at mu;exact mu
 have hb:∀b,H b=none->b≠e:=fun b n z=>by
  subst z
  rcases he with r|r
  ·exact hx b n r
  ·rw[n] at r;cases r
 have hm:∀b u,H b=some u->¬Zk6 (some u)->b≠x:=fun b u q nm z=>by subst z;rw[q] at mu;exact nm mu
 refine⟨fun b u q n _ _=>k b u (hb b n) q,fun b u q n _ _=>⟨u.slots,k b u (hb b n) q⟩,fun b u q n _=>by rw[Zm (hx b n)];exact n,fun b u q _=>?_,
  fun b xs q=>by rw[Zm (hm b _ q fun z=>z)];exact q,fun b u xs q=>by rw[Zm (hm b _ q fun z=>z)];exact q,fun b l c r q=>by rw[Zm (hm b _ q fun z=>z)];exact q⟩
 by_cases hbe:b=e
 ·subst hbe;exact heo
 ·exact⟨u,k b u hbe q⟩
end
def trk (h:Heap)(H:Hp):List Addr:=(List.range h.objs.size).filter fun a=>(H a).isSome
def Mz (h:Heap)(H:Hp):Heap:=PySem.W.hideAll h (trk h H)
def Od (h:Heap)(H:Hp):(Mz h H).objs.size=h.objs.size:=PySem.W.hideAll_size _ _
def Za7 {h:Heap}{H:Hp}{b:Addr}{o:Obj}(e:h.get? b=some o)(n:H b=none):(Mz h H).get? b=some o:=
 PySem.W.hideAll_get _ e fun hm=>by
  have q:(H b).isSome=true:=(List.mem_filter.mp hm).2
  rw[n] at q;simp at q
def Zeu {h:Heap}{H:Hp}{b:Addr}{o:Obj}(e:(Mz h H).get? b=some o):h.get? b=some o/\H b=none:=by
 have e':h.get? b=some o:=PySem.W.of_hideAll (trk h H) e
 refine⟨e',?_⟩
 cases q:H b with
 |none=>rfl
 |some x=>
  have hm:b∈trk h H:=List.mem_filter.mpr ⟨List.mem_range.mpr (Heap.lt_size e'),by simp[q]⟩
  have z:(Mz h H).get? b=none:=PySem.W.hideAll_none (trk h H) hm
  rw[z] at e;cases e
structure Mod (K:PySem.W.Frag) (mg:Str->Option Value) (base:Heap):Prop where
 kin:K.In base
 glob:base.Ns mainGlobals mg
 blt:∃mb,base.Ns builtinsNs mb/\∀x:Str,x ≠ "__name__"->mb x=bootBuiltins x
 nolimit:base.NoLimit
structure Cx where
 prog:Program
 w:World
 K:PySem.W.Frag
 mg:Str->Option Value
 base:Heap
 A:Around
 N:List Str
 s₀:Shared
 H₀:Hp
 env:Env
 outer:List Env
 stack:List Env
 ex:List Addr
 fn:Str->Bool
 calm:Bool
 pn:List (Addr×Obj)
 xe:Value->Shared->Prop
def Oe (l:List Env):List Addr:=l.filterMap (·.frame)
abbrev Cx.fs (X:Cx):List Addr:=Oe X.outer
def Rz (sc:Scope)(x:Str):Prop:=sc.names.lookup x=some .local\/sc.names.lookup x=some .cell\/sc.names.lookup x=some .free
def Za8 (sc:Scope)(x:Str):Prop:=sc.names.lookup x=some .local\/sc.names.lookup x=some .cell
def Znk (env:Env)(h:Heap)(m:Str->Option Value)(x:Str)(u:Value):Prop:=
 (env.kindOf x=some .local/\m x=some u)\/((env.kindOf x=some .cell\/env.kindOf x=some .free)/\∃c,env.cells.lookup x=some c/\h.IsCell c (some u))
structure Cx.Ok (X:Cx):Prop where
 mod:Mod X.K X.mg X.base
 kind:X.env.scope.kind=.function
 glob:X.env.globals=mainGlobals
 blt:X.env.builtins=builtinsNs
 above:X.s₀.heap.objs.size<=X.env.locals
 inj:∀x y c,X.env.cells.lookup x=some c->X.env.cells.lookup y=some c->x=y
 has:∀x,(X.env.kindOf x=some .cell\/X.env.kindOf x=some .free)->∃c,X.env.cells.lookup x=some c
 cab:∀x c,X.fn x=true->X.env.cells.lookup x=some c->X.s₀.heap.objs.size<=c
 hd:X.calm=true->X.A.handled=none
 frames:X.A.frames=some X.stack
 stk:X.stack=X.outer\/(X.stack=X.env::X.outer/\X.env.frame=some X.env.locals)
 exf:∀b∈X.ex,b≠X.env.locals/\∀x c,X.env.cells.lookup x=some c->c≠b
 bs:∀b o,X.base.get? b=some o->X.s₀.heap.get? b=some o/\X.H₀ b=none
 bsz:X.base.objs.size<=X.s₀.heap.objs.size
 noex:∀b o,X.base.get? b=some o->b ∉ X.ex
 exfs:∀b∈X.ex,b ∉ X.fs
 funs:X.s₀.heap.FunFrames X.base X.outer
 frf:∀b∈X.fs,X.H₀ b=none
structure Inv (X:Cx) (pins:List (Addr×Obj)) (σ:List (Option V)) (H:Hp) (s:Shared):Prop where
 ok:X.Ok
 os:s.os=X.s₀.os
 bare:AllBare s.gens
 base:Un X.fs X.ex X.H₀ H X.s₀.heap s.heap
 loc:∃m,s.heap.Ns X.env.locals m/\∀(i:Nat) (x:Str) (v:V),X.N[i]?=some x->σ[i]?=some (some v)->Rz X.env.scope x->∃u,RelV v u/\Znk X.env s.heap m x u
 cell:∀x c,X.env.cells.lookup x=some c->∃v,s.heap.IsCell c v
 free:H X.env.locals=none
 freeC:∀x c,X.env.cells.lookup x=some c->H c=none
 pin:∀p∈X.pn++pins,s.heap.get? p.1=some p.2/\H p.1=none/\p.1≠X.env.locals/\p.1 ∉ X.fs/\∀v,p.2.data≠.cell v
 hok:HOk X.prog X.w H s.heap
 len:σ.length=X.N.length
section
variable {X:Cx}{pins:List (Addr×Obj)}{σ:List (Option V)}{H H':Hp}{s:Shared}{h':Heap}
def Cx.Ok.nofr (ok:X.Ok){b:Addr}{o:Obj}(e:X.base.get? b=some o):b ∉ X.fs:=fun hb=>by
 have:=(ok.funs.mem hb).1
 rw[e] at this;cases this
theorem Inv.bs (I:Inv X pins σ H s):∀b o,X.base.get? b=some o->s.heap.get? b=some o/\H b=none:=fun b o e=>
 ⟨I.base.keep b o (I.ok.bs b o e).1 (I.ok.bs b o e).2 (I.ok.nofr e) (I.ok.noex b o e),I.base.free b o (I.ok.bs b o e).1 (I.ok.bs b o e).2 (I.ok.noex b o e)⟩
def Inv.bk (I:Inv X pins σ H s):∀b o,X.base.get? b=some o->s.heap.get? b=some o:=fun b o e=>(I.bs b o e).1
theorem Inv.mod (I:Inv X pins σ H s):Mod X.K X.mg X.base:=I.ok.mod
def Inv.kIn (I:Inv X pins σ H s):X.K.In s.heap:=I.ok.mod.kin.keeps I.bk
theorem Inv.lt (I:Inv X pins σ H s):X.env.locals<s.heap.objs.size:=let ⟨_,hn,_⟩:=I.loc;hn.lt
def Inv.sz (I:Inv X pins σ H s):X.s₀.heap.objs.size<=s.heap.objs.size:=Nat.le_trans I.ok.above (Nat.le_of_lt I.lt)
def Inv.nofs (I:Inv X pins σ H s){a:Addr}(h:s.heap.objs.size<=a):a ∉ X.fs:=fun hb=>by
 obtain⟨_,o,ho,_⟩:=I.ok.funs.mem hb
 exact absurd (Nat.lt_of_lt_of_le (Heap.lt_size ho) (Nat.le_trans I.sz h)) (Nat.lt_irrefl _)
def Inv.cne (I:Inv X pins σ H s):∀x c,X.env.cells.lookup x=some c->c≠X.env.locals:=fun x c e z=>by
 obtain⟨v,o,ho,hd⟩:=I.cell x c e
 obtain⟨m,⟨o',es,ep,ho',hd',_⟩,_⟩:=I.loc
 rw[z,ho'] at ho;cases ho;rw[hd'] at hd;cases hd
theorem Inv.funs (I:Inv X pins σ H s):s.heap.FunFrames X.base X.outer:=by
 have all:∀(l:List Env),(∀b∈Oe l,b∈X.fs)->X.s₀.heap.FunFrames X.base l->s.heap.FunFrames X.base l:=by
  intro l
  induction l with
  |nil=>intro _ _;trivial
  |cons env r ih=>
   intro hs hl
   obtain⟨hk,⟨L,o,hf,hn,ho,hd⟩,hr⟩:=hl
   have hL:L∈X.fs:=hs L (by unfold Oe;rw[List.filterMap_cons,hf];exact List.mem_cons_self)
   obtain⟨sl,e⟩:=I.base.slot L o ho (I.ok.frf L hL) hL fun z=>I.ok.exfs L z hL
   exact⟨hk,⟨L,_,hf,hn,e,hd⟩,ih (fun b hb=>hs b (by unfold Oe;rw[List.filterMap_cons,hf];exact List.mem_cons_of_mem _ hb)) hr⟩
 exact all X.outer (fun _ hb=>hb) I.ok.funs
theorem Inv.stack (I:Inv X pins σ H s):s.heap.FunFrames X.base X.stack:=by
 rcases I.ok.stk with e|⟨e,hf⟩
 ·rw[e];exact I.funs
 ·rw[e]
  obtain⟨m,hn,_⟩:=I.loc
  refine .cons (by rw[I.ok.kind];decide) hf hn ?_ I.funs
  exact Heap.get?_none_of_le (Nat.le_trans I.ok.bsz I.ok.above)
def Inv.stkSub (I:Inv X pins σ H s):∀b∈Oe X.stack,b∈X.env.locals::X.fs:=fun b hb=>by
 rcases I.ok.stk with e|⟨e,hf⟩
 ·rw[e] at hb;exact List.mem_cons_of_mem _ hb
 ·rw[e] at hb
  unfold Oe at hb
  rw[List.filterMap_cons,hf] at hb
  exact hb
def Inv.stkFree (I:Inv X pins σ H s):∀b∈Oe X.stack,H b=none:=fun b hb=>by
 rcases List.mem_cons.mp (I.stkSub b hb) with e|hb
 ·rw[e];exact I.free
 ·obtain⟨_,o,ho,_⟩:=I.ok.funs.mem hb
  exact I.base.free b o ho (I.ok.frf b hb) fun z=>I.ok.exfs b z hb
def Inv.step {g':Array GenState}{t':Nat}{d':Drawn}{ch:List Addr}(I:Inv X pins σ H s)(hch:∀b∈ch,(b∈X.ex\/X.s₀.heap.objs.size<=b)/\b≠X.env.locals/\(∀x c,X.env.cells.lookup x=some c->c≠b)/\∀p∈X.pn++pins,p.1≠b)(keep:∀b o,b≠X.env.locals->b ∉ X.fs->b ∉ ch->s.heap.get? b=some o->H b=none->h'.get? b=some o)(slot:∀b o,b≠X.env.locals->b∈X.fs->b ∉ ch->s.heap.get? b=some o->H b=none->∃sl,h'.get? b=some {o with slots:=sl})(free:∀b o,b ∉ ch->s.heap.get? b=some o->H b=none->H' b=none)(there:∀b o,b ∉ ch->s.heap.get? b=some o->∃o',h'.get? b=some o')(tups:∀b xs,H b=some (.tup xs)->H' b=some (.tup xs))(frzs:∀b o u,H b=some (.frz o u)->H' b=some (.frz o u))(tbls:∀b l c q,H b=some (.tbl l c q)->H' b=some (.tbl l c q))(ns:∀m,s.heap.Ns X.env.locals m->h'.Ns X.env.locals m)(hok:HOk X.prog X.w H' h')(hg:AllBare g'):
  Inv X pins σ H' {s with heap:=h',gens:=g',drawn:=d',toks:=t'}:=by
 have neL:∀b o,X.s₀.heap.get? b=some o->b≠X.env.locals:=fun b o e=>Nat.ne_of_lt (Nat.lt_of_lt_of_le (Heap.lt_size e) I.ok.above)
 have neC:∀b o,X.s₀.heap.get? b=some o->b ∉ X.ex->b ∉ ch:=fun b o e hx hb=>by
  rcases(hch b hb).1 with z|z
  ·exact hx z
  ·exact absurd (Nat.lt_of_lt_of_le (Heap.lt_size e) z) (Nat.lt_irrefl _)
 have cellK:∀x c,X.env.cells.lookup x=some c->∀v,s.heap.IsCell c v->h'.IsCell c v:=fun x c e v ⟨o,ho,hd⟩=>by
  have nch:c ∉ ch:=fun z=>(hch c z).2.2.1 x c e rfl
  by_cases hc:c∈X.fs
  ·obtain⟨sl,q⟩:=slot c o (I.cne x c e) hc nch ho (I.freeC x c e)
   exact⟨_,q,hd⟩
  ·exact⟨o,keep c o (I.cne x c e) hc nch ho (I.freeC x c e),hd⟩
 refine⟨I.ok,I.os,hg,⟨fun b o e n hb hx=>?_,fun b o e n hb hx=>?_,fun b o e n hx=>?_,fun b o e hx=>?_,fun b xs e=>tups b xs (I.base.tups b xs e),fun b o xs e=>frzs b o xs (I.base.frzs b o xs e),fun b l c q e=>tbls b l c q (I.base.tbls b l c q e)⟩,?_,fun x c e=>?_,?_,fun x c e=>?_,fun p hp=>?_,hok,I.len⟩
 ·exact keep b o (neL b o e) hb (neC b o e hx) (I.base.keep b o e n hb hx) (I.base.free b o e n hx)
 ·obtain⟨sl,e1⟩:=I.base.slot b o e n hb hx
  obtain⟨sl',e2⟩:=slot b _ (neL b o e) hb (neC b o e hx) e1 (I.base.free b o e n hx)
  exact⟨sl',e2⟩
 ·obtain⟨o',e1⟩:=I.base.there b o e hx
  exact free b o' (neC b o e hx) e1 (I.base.free b o e n hx)
 ·obtain⟨o',e1⟩:=I.base.there b o e hx
  exact there b o' (neC b o e hx) e1
 ·obtain⟨m,hn,hl⟩:=I.loc
  refine⟨m,ns m hn,fun i x v e1 e2 e3=>?_⟩
  obtain⟨u,r,l⟩:=hl i x v e1 e2 e3
  refine⟨u,r,?_⟩
  rcases l with l|⟨k,c,e,z⟩
  ·exact .inl l
  ·exact .inr ⟨k,c,e,cellK x c e _ z⟩
 ·obtain⟨v,z⟩:=I.cell x c e
  exact⟨v,cellK x c e v z⟩
 ·obtain⟨m,⟨o,_,_,ho,_⟩,_⟩:=I.loc
  exact free _ o (fun z=>(hch _ z).2.1 rfl) ho I.free
 ·obtain⟨v,o,ho,hd⟩:=I.cell x c e
  exact free c o (fun z=>(hch c z).2.2.1 x c e rfl) ho (I.freeC x c e)
 ·obtain⟨e,n,ne,nf,d⟩:=I.pin p hp
  have nch:p.1 ∉ ch:=fun z=>(hch p.1 z).2.2.2 p hp rfl
  exact⟨keep p.1 p.2 ne nf nch e n,free p.1 p.2 nch e n,ne,nf,d⟩
def Inv.un {t':Nat}(I:Inv X pins σ H s)(u:Un X.fs [] H H' s.heap h')(hok:HOk X.prog X.w H' h'):Inv X pins σ H' {s with heap:=h',toks:=t'}:=by
 obtain⟨m,⟨o,es,ep,ho,r⟩,_⟩:=id I.loc
 obtain⟨sl,hL⟩:=u.any ho I.free (by simp)
 exact I.step (g':=s.gens) (d':=s.drawn) (ch:=[]) (fun _ z=>nomatch z) (fun b o _ hb _ e n=>u.keep b o e n hb (by simp)) (fun b o _ hb _ e n=>u.slot b o e n hb (by simp)) (fun b o _ e n=>u.free b o e n (by simp)) (fun b o _ e=>u.there b o e (by simp)) u.tups u.frzs u.tbls (fun m' hm=>by
  obtain⟨o',es',ep',ho',r'⟩:=hm
  rw[ho] at ho';cases ho'
  exact⟨_,es',ep',hL,r'⟩) hok I.bare
def Inv.call {g':Array GenState}{t':Nat}{d':Drawn}{ch:List Addr}(I:Inv X pins σ H s)(u:Un (Oe X.stack) ch H H' s.heap h')(hok:HOk X.prog X.w H' h')(hg:AllBare g')(hch:∀b∈ch,(b∈X.ex\/X.s₀.heap.objs.size<=b)/\b≠X.env.locals/\(∀x c,X.env.cells.lookup x=some c->c≠b)/\∀p∈X.pn++pins,p.1≠b):
  Inv X pins σ H' {s with heap:=h',gens:=g',drawn:=d',toks:=t'}:=by
 obtain⟨m,⟨o,es,ep,ho,r⟩,_⟩:=id I.loc
 obtain⟨sl,hL⟩:=u.any ho I.free fun z=>(hch _ z).2.1 rfl
 exact I.step (ch:=ch) hch (fun b o hL hb hc e n=>u.keep b o e n (fun z=>(List.mem_cons.mp (I.stkSub b z)).elim hL hb) hc) (fun b o _ _ hc e n=>u.any e n hc) (fun b o hc e n=>u.free b o e n hc) (fun b o hc e=>u.there b o e hc) u.tups u.frzs u.tbls (fun m' hm=>by
  obtain⟨o',es',ep',ho',r'⟩:=hm
  rw[ho] at ho';cases ho'
  exact⟨_,es',ep',hL,r'⟩) hok hg
def Inv.turned {t':Nat}{it:Addr}(I:Inv X pins σ H s)(k:∀b o,b≠it->s.heap.get? b=some o->h'.get? b=some o)(hn:H it=none)(hL:it≠X.env.locals)(h1:it∈X.ex\/X.s₀.heap.objs.size<=it)(h2:∀x c,X.env.cells.lookup x=some c->c≠it)(h3:∀p∈X.pn++pins,p.1≠it):Inv X pins σ H {s with heap:=h',toks:=t'}:=by
 have nit:∀b u,H b=some u->b≠it:=fun b u e z=>by rw[z,hn] at e;cases e
 refine I.step (g':=s.gens) (d':=s.drawn) (ch:=[it]) (fun b hb=>?_) (fun b o _ _ hc e _=>k b o (fun z=>hc (by simp[z])) e) (fun b o _ _ hc e _=>⟨o.slots,k b o (fun z=>hc (by simp[z])) e⟩) (fun _ _ _ _ n=>n)
  (fun b o hc e=>⟨o,k b o (fun z=>hc (by simp[z])) e⟩) (fun _ _ e=>e) (fun _ _ _ e=>e) (fun _ _ _ _ e=>e) (fun m hm=>?_) (fun b u e=>?_) I.bare
 ·have e:b=it:=by simpa using hb
  subst e
  exact⟨h1,hL,h2,h3⟩
 ·obtain⟨o,es,ep,ho,r⟩:=hm
  exact⟨o,es,ep,k _ o (Ne.symm hL) ho,r⟩
 ·refine(I.hok b u e).stay (fun c v hc q=>k c v ?_ q) (fun _ q=>q) (fun _ _ q=>q) fun _ _ _ q=>q
  rcases hc with z|z
  ·rw[z];exact nit b u e
  ·exact nit c _ z
def Inv.tok (I:Inv X pins σ H s)(t:Nat):Inv X pins σ H {s with toks:=t}:=I.un (h':=s.heap) (t':=t) Un.refl I.hok
theorem Inv.kept {t':Nat}(I:Inv X pins σ H s)(k:∀b u,s.heap.get? b=some u->h'.get? b=some u):Inv X pins σ H {s with heap:=h',toks:=t'}:=I.un (Un.kept k) (I.hok.kept k)
theorem Inv.laid {a:Addr}{o:HO}{t':Nat}(I:Inv X pins σ H s)(k:∀b u,s.heap.get? b=some u->h'.get? b=some u)(hp:s.heap.objs.size<=a)(new:ObjOk X.prog X.w (upd H a o) h' a o):
  Inv X pins σ (upd H a o) {s with heap:=h',toks:=t'}:=I.un (Un.laid k hp (I.hok.fresh hp)) (I.hok.laid k hp new)
theorem Inv.write {x e:Addr}{o:HO}{t':Nat}(I:Inv X pins σ H s)(mu:Zk6 (H x))(he:e=x\/H e=some (.own x))(k:∀b u,b≠e->s.heap.get? b=some u->h'.get? b=some u)(heo:∃u,h'.get? e=some u)(new:ObjOk X.prog X.w (upd H x o) h' x o):Inv X pins σ (upd H x o) {s with heap:=h',toks:=t'}:=I.un (Un.write mu he k heo) (I.hok.write mu he k heo new)
def Inv.pins_of {pins':List (Addr×Obj)}(I:Inv X pins σ H s)(h:∀p∈pins',s.heap.get? p.1=some p.2/\H p.1=none/\p.1≠X.env.locals/\p.1 ∉ X.fs/\∀v,p.2.data≠.cell v):Inv X pins' σ H s:=
 ⟨I.ok,I.os,I.bare,I.base,I.loc,I.cell,I.free,I.freeC,fun p hp=>(List.mem_append.mp hp).elim (fun z=>I.pin p (List.mem_append_left _ z)) (h p),I.hok,I.len⟩
def As {N:List Str}(hN:N.Nodup){i j:Nat}{x:Str}(a:N[i]?=some x)(b:N[j]?=some x):i=j:=by
 obtain⟨h1,e1⟩:=List.getElem?_eq_some_iff.mp a
 obtain⟨h2,e2⟩:=List.getElem?_eq_some_iff.mp b
 exact(List.getElem_inj hN).mp (e1.trans e2.symm)
def Of {M:Model}{A:Around}{E:Value->Shared->Prop}{i:Nat}{x:Str}{v:V}{u:Value}{Q:Unit->Shared->Prop}(I:Inv X pins σ H s)(hN:X.N.Nodup)(hi:X.N[i]?=some x)(hx:Za8 X.env.scope x)(r:RelV v u)(h:∀s',Inv X pins (σ.set i (some v)) H s'->(∃a,Heap.SameBut a s.heap s'.heap/\(a=X.env.locals\/X.env.cells.lookup x=some a))->Q () s')(hf:X.fn x=true\/X.env.scope.names.lookup x=some .local:=by first|exact .inl rfl|exact .inr rfl|assumption):wpAny M A (storeName X.env x u) Q E s:=by
 obtain⟨m,hn,hl⟩:=id I.loc
 have hcls:(X.env.scope.kind==.class||(X.env.scope.kind==.module&&X.env.locals != X.env.globals))=false:=by rw[I.ok.kind];rfl
 have hiσ:i<σ.length:=by rw[I.len];exact(List.getElem?_eq_some_iff.mp hi).1
 have cne:=I.cne
 have tracked:∀{a:Addr}{h':Heap},(∃o,s.heap.get? a=some o/\H a=none)->Heap.SameBut a s.heap h'->HOk X.prog X.w H h':=fun {a h'} ha hs b ob e=>by
  obtain⟨_,_,hfree⟩:=ha
  refine(I.hok b ob e).stay (fun c w' hc q=>(hs.2 c ?_).trans q) (fun _ q=>q) (fun _ _ q=>q) fun _ _ _ q=>q
  rintro rfl
  rcases hc with rfl|hc
  ·rw[hfree] at e;cases e
  ·rw[hfree] at hc;cases hc
 rcases hx with hk|hk
 ·refine wpAny_storeName_local hk hn (fun h' hn' hs=>?_) hcls
  obtain⟨oL,_,_,hoL,_⟩:=id hn
  refine h _ ⟨I.ok,I.os,I.bare,⟨fun b o e n hb hx=>?_,fun b o e n hb hx=>?_,I.base.free,fun b o e hx=>?_,I.base.tups,I.base.frzs,I.base.tbls⟩,⟨_,hn',fun j y v' e1 e2 e3=>?_⟩,fun y c e=>?_,I.free,I.freeC,fun p hp=>?_,tracked ⟨oL,hoL,I.free⟩ hs,by simpa using I.len⟩ ⟨_,hs,.inl rfl⟩
  ·exact(hs.2 b (Nat.ne_of_lt (Nat.lt_of_lt_of_le (Heap.lt_size e) I.ok.above))).trans (I.base.keep b o e n hb hx)
  ·obtain⟨sl,e1⟩:=I.base.slot b o e n hb hx
   exact⟨sl,(hs.2 b (Nat.ne_of_lt (Nat.lt_of_lt_of_le (Heap.lt_size e) I.ok.above))).trans e1⟩
  ·obtain⟨o',e1⟩:=I.base.there b o e hx
   exact⟨o',(hs.2 b (Nat.ne_of_lt (Nat.lt_of_lt_of_le (Heap.lt_size e) I.ok.above))).trans e1⟩
  ·by_cases hj:j=i
   ·subst hj
    rw[hi] at e1;cases e1
    rw[List.getElem?_set_self hiσ] at e2
    cases e2
    exact⟨u,r,.inl ⟨hk,by simp⟩⟩
   ·rw[List.getElem?_set_ne (Ne.symm hj)] at e2
    obtain⟨u',r',q⟩:=hl j y v' e1 e2 e3
    refine⟨u',r',?_⟩
    rcases q with⟨k,e⟩|⟨k,c,e,z⟩
    ·refine .inl ⟨k,?_⟩
     have:y≠x:=fun e=>hj (As hN e1 (e▸hi))
     simp[this,e]
    ·exact .inr ⟨k,c,e,z.sameBut hs (cne y c e)⟩
  ·obtain⟨w',z⟩:=I.cell y c e
   exact⟨w',z.sameBut hs (cne y c e)⟩
  ·obtain⟨e,n,ne,nf,d⟩:=I.pin p hp
   exact⟨(hs.2 p.1 ne).trans e,n,ne,nf,d⟩
 ·have hfn:X.fn x=true:=by
   rcases hf with z|z
   ·exact z
   ·rw[z] at hk;cases hk
  obtain⟨c,hc⟩:=I.ok.has x (.inl hk)
  obtain⟨w',z⟩:=I.cell x c hc
  refine wpAny_storeName_cell I.ok.kind hk hc z (fun h' hc' hs=>?_)
  obtain⟨oc,hoc,hocd⟩:=id z
  refine h {s with heap:=h'} ⟨I.ok,I.os,I.bare,⟨fun b o e n hb hx=>?_,fun b o e n hb hx=>?_,I.base.free,fun b o e hx=>?_,I.base.tups,I.base.frzs,I.base.tbls⟩,⟨m,hn.sameBut hs (Ne.symm (cne x c hc)),fun j y v' e1 e2 e3=>?_⟩,fun y c' e=>?_,I.free,I.freeC,fun p hp=>?_,tracked ⟨oc,hoc,I.freeC x c hc⟩ hs,by simpa using I.len⟩ ⟨c,hs,.inr hc⟩
  ·exact(hs.2 b (Nat.ne_of_lt (Nat.lt_of_lt_of_le (Heap.lt_size e) (I.ok.cab x c hfn hc)))).trans (I.base.keep b o e n hb hx)
  ·obtain⟨sl,e1⟩:=I.base.slot b o e n hb hx
   exact⟨sl,(hs.2 b (Nat.ne_of_lt (Nat.lt_of_lt_of_le (Heap.lt_size e) (I.ok.cab x c hfn hc)))).trans e1⟩
  ·obtain⟨o',e1⟩:=I.base.there b o e hx
   exact⟨o',(hs.2 b (Nat.ne_of_lt (Nat.lt_of_lt_of_le (Heap.lt_size e) (I.ok.cab x c hfn hc)))).trans e1⟩
  ·by_cases hj:j=i
   ·subst hj
    rw[hi] at e1;cases e1
    rw[List.getElem?_set_self hiσ] at e2
    cases e2
    exact⟨u,r,.inr ⟨.inl hk,c,hc,hc'⟩⟩
   ·rw[List.getElem?_set_ne (Ne.symm hj)] at e2
    obtain⟨u',r',q⟩:=hl j y v' e1 e2 e3
    refine⟨u',r',?_⟩
    rcases q with q|⟨k,c',e,z'⟩
    ·exact .inl q
    ·refine .inr ⟨k,c',e,z'.sameBut hs ?_⟩
     rintro rfl
     exact hj (As hN e1 (I.ok.inj _ _ _ e hc▸hi))
  ·by_cases hcc:c'=c
   ·subst hcc;exact⟨_,hc'⟩
   ·obtain⟨w2,z2⟩:=I.cell y c' e
    exact⟨w2,z2.sameBut hs hcc⟩
  ·obtain⟨e,n,ne,nf,d⟩:=I.pin p hp
   refine⟨(hs.2 p.1 ?_).trans e,n,ne,nf,d⟩
   intro q
   rw[q,hoc] at e
   have q':oc=p.2:=Option.some.inj e
   exact d w' (by rw[<-q'];exact hocd)
def Gn {M:Model}{A:Around}{E:Value->Shared->Prop}{i:Nat}{x:Str}{v:V}{u:Value}{Q:Unit->Shared->Prop}(I:Inv X pins σ H s)(hN:X.N.Nodup)(hi:X.N[i]?=some x)(hx:Za8 X.env.scope x)(r:RelV v u)(h:∀s',Inv X pins (σ.set i (some v)) H s'->Q () s')(hf:X.fn x=true\/X.env.scope.names.lookup x=some .local:=by first|exact .inl rfl|exact .inr rfl|assumption):wpAny M A (storeName X.env x u) Q E s:=
 Of I hN hi hx r (fun s' I' _=>h s' I') hf
def Inv.call' {s':Shared}{ch:List Addr}(I:Inv X pins σ H s)(ho:s'.os=s.os)(u:Un (Oe X.stack) ch H H' s.heap s'.heap)(hok:HOk X.prog X.w H' s'.heap)(hg:AllBare s'.gens)(hch:∀b∈ch,(b∈X.ex\/X.s₀.heap.objs.size<=b)/\b≠X.env.locals/\(∀x c,X.env.cells.lookup x=some c->c≠b)/\∀p∈X.pn++pins,p.1≠b):Inv X pins σ H' s':=by
 obtain⟨h',g',d',t',o'⟩:=s'
 have e:o'=s.os:=ho
 subst e
 exact I.call (g':=g') (t':=t') (d':=d') u hok hg hch
end
abbrev XK:=Value->Option Addr->Hp->Prop
abbrev St:=List (Option V)
abbrev VK:=V->Hp->Prop
abbrev TE:=St->Hp->VK->Prop
abbrev TT:=St->Hp->(Bool->Hp->Prop)->Prop
abbrev TA:=St->Hp->(List V->Hp->Prop)->Prop
structure Ends where
 nx:St->Hp->Prop
 rt:VK
 bk:St->Hp->Prop:=fun _ _=>False
 ct:St->Hp->Prop:=fun _ _=>False
abbrev TS:=Ends->St->Hp->Prop
def EP (X:Cx)(pins:List (Addr×Obj))(σ:St)(Q:VK)(u:Value)(s':Shared):Prop:=∃v H',Inv X pins σ H' s'/\RelV v u/\Q v H'
def TP (X:Cx)(pins:List (Addr×Obj))(σ:St)(Q:Bool->Hp->Prop)(b:Bool)(s':Shared):Prop:=∃H',Inv X pins σ H' s'/\Q b H'
def AP (X:Cx)(pins:List (Addr×Obj))(σ:St)(Q:List V->Hp->Prop)(us:List Value)(s':Shared):Prop:=∃vs H',Inv X pins σ H' s'/\Vals vs us/\Q vs H'
def SP (X:Cx)(pins:List (Addr×Obj))(D:Ends)(f:Flow)(s':Shared):Prop:=
 match f with
 |.next=>∃σ' H',Inv X pins σ' H' s'/\D.nx σ' H'
 |.brk=>∃σ' H',Inv X pins σ' H' s'/\D.bk σ' H'
 |.cont=>∃σ' H',Inv X pins σ' H' s'/\D.ct σ' H'
 |.ret u=>∃v σ' H',Inv X pins σ' H' s'/\RelV v u/\D.rt v H'
def PE (X:Cx)(e:Expr)(t:TE):Prop:=
 ∀(pins:List (Addr×Obj)) (s:Shared) (σ:St) (H:Hp) (Q:VK),Inv X pins σ H s->t σ H Q->wpAny (model X.prog X.w) X.A (eval e X.env) (EP X pins σ Q) X.xe s
def PT (X:Cx)(e:Expr)(t:TT):Prop:=
 ∀(pins:List (Addr×Obj)) (s:Shared) (σ:St) (H:Hp) (Q:Bool->Hp->Prop),Inv X pins σ H s->t σ H Q->wpAny (model X.prog X.w) X.A (isTrue e X.env (eval e X.env)) (TP X pins σ Q) X.xe s
def PW (X:Cx)(e:Expr)(t:TT):Prop:=
 ∀(whole:Sem Value) (pins:List (Addr×Obj)) (s:Shared) (σ:St) (H:Hp) (Q:Bool->Hp->Prop),Inv X pins σ H s->t σ H Q->wpAny (model X.prog X.w) X.A (isTrue e X.env whole) (TP X pins σ Q) X.xe s
def PW.pt {X:Cx}{e:Expr}{t:TT}(h:PW X e t):PT X e t:=h _
def PA (X:Cx)(es:List Expr)(t:TA):Prop:=
 ∀(pos:Pos) (pins:List (Addr×Obj)) (s:Shared) (σ:St) (H:Hp) (Q:List V->Hp->Prop),Inv X pins σ H s->t σ H Q->wpAny (model X.prog X.w) X.A (spliced (backTo pos (starEach es X.env))) (AP X pins σ Q) X.xe s
def PS (X:Cx)(st:Stmt)(t:TS):Prop:=
 ∀(pins:List (Addr×Obj)) (s:Shared) (σ:St) (H:Hp) (D:Ends),Inv X pins σ H s->t D σ H->wpAny (model X.prog X.w) X.A (exec st X.env) (SP X pins D) X.xe s
def PSs (X:Cx)(st:List Stmt)(t:TS):Prop:=
 ∀(pins:List (Addr×Obj)) (s:Shared) (σ:St) (H:Hp) (D:Ends),Inv X pins σ H s->t D σ H->wpAny (model X.prog X.w) X.A (execs st X.env) (SP X pins D) X.xe s
def Yj {α:Type}{t:Sem α}{Q Q':α->Shared->Prop}{M:Model}{A:Around}{E:Value->Shared->Prop}{s:Shared}(h:wpAny M A t Q E s)(hQ:∀a s,Q a s->Q' a s):wpAny M A t Q' E s:=wpAny_mono h hQ fun _ _ x=>x
section
variable {X:Cx}
def Za9 (i:Nat):TE:=fun σ H Q=>∃v,σ[i]?=some (some v)/\Q v H
def tC (v:V):TE:=fun _ H Q=>Q v H
def Z9 {i:Nat}{x:Str}{pos:Pos}(hN:X.N[i]?=some x)(hv:Rz X.env.scope x) (hd:(x==("__debug__":Str))=false:=by decide) (hcd:(x==("__classdict__":Str))=false:=by decide):PE X (.Name x pos) (Za9 i):=by
 intro pins s σ H Q I h
 obtain⟨v,e,h⟩:=h
 obtain⟨m,hn,hl⟩:=I.loc
 obtain⟨u,r,l⟩:=hl i x v hN e hv
 have fin:EP X pins σ Q u s:=⟨v,H,I,r,h⟩
 rcases l with⟨hk,hm⟩|⟨hk,c,hc,hcell⟩
 ·exact wpAny_Name (wpAny_loadName_local I.ok.kind hk hn hm fin) hd
 ·rcases hk with hk|hk
  ·exact wpAny_Name (wpAny_loadName_cell I.ok.kind hk hc hcell fin) hd
  ·exact wpAny_Name (wpAny_loadName_free I.ok.kind hk hc hcell fin hcd) hd
def Zba {i j pos}:PE X (.Constant (.int i) j pos) (tC (.int i)):=fun _ _ _ H _ I h=>wpAny_Constant_int ⟨.int i,H,I.tok _,⟨_,rfl⟩,h⟩
def Zk7 {b j pos}:PE X (.Constant (.bool b) j pos) (tC (.bl b)):=fun _ _ _ H _ I h=>Constant_bool ⟨.bl b,H,I,rfl,h⟩
def Zie {j pos}:PE X (.Constant .none j pos) (tC .non):=fun _ _ _ H _ I h=>Constant_none ⟨.non,H,I,rfl,h⟩
def Zif {x j pos}:PE X (.Constant (.str x) j pos) (tC (.str x)):=fun _ _ _ H _ I h=>Calls.Constant_str ⟨.str x,H,I.tok _,⟨_,rfl⟩,h⟩
def Gl (X:Cx)(x:Str):Prop:=X.env.kindOf x=some .globalImplicit
def M0 {E:Value->Shared->Prop}{pins:List (Addr×Obj)}{s:Shared}{σ:St}{H:Hp}{x:Str}{u:Value}{pos:Pos}{Q:Value->Shared->Prop}(I:Inv X pins σ H s)(hg:Gl X x)(hm:X.mg x=some u)(h:Q u s)
  (hd:(x==("__debug__":Str))=false:=by decide):wpAny (model X.prog X.w) X.A (eval (.Name x pos) X.env) Q E s:=
 Calls.Name_function_global I.ok.kind hg (Calls.loadGlobal_global (by rw[I.ok.glob];exact I.mod.glob.keeps I.bk) hm h) hd
def U1 {E:Value->Shared->Prop}{pins:List (Addr×Obj)}{s:Shared}{σ:St}{H:Hp}{x:Str}{u:Value}{pos:Pos}{Q:Value->Shared->Prop}(I:Inv X pins σ H s)(hg:Gl X x)(hm:X.mg x=none)(hv:bootBuiltins x=some u)(h:Q u s)
  (hn:x ≠ "__name__":=by decide) (hd:(x==("__debug__":Str))=false:=by decide):wpAny (model X.prog X.w) X.A (eval (.Name x pos) X.env) Q E s:=by
 obtain⟨mb,h1,h2⟩:=I.mod.blt
 exact Calls.Name_function_global I.ok.kind hg (Calls.loadGlobal_builtin (by rw[I.ok.glob];exact I.mod.glob.keeps I.bk) hm (by rw[I.ok.blt];exact h1.keeps I.bk) ((h2 x hn).trans hv) h) hd
def Zev {x:Str}{v:V}{u:Value}{pos:Pos}(hg:Gl X x)(hm:X.mg x=some u)(r:RelV v u) (hd:(x==("__debug__":Str))=false:=by decide):PE X (.Name x pos) (tC v):=
 fun _ _ _ H _ I h=>M0 I hg hm ⟨v,H,I,r,h⟩ hd
def Zew {x:Str}{v:V}{u:Value}{pos:Pos}(hg:Gl X x)(hm:X.mg x=none)(hv:bootBuiltins x=some u)(r:RelV v u) (hn:x ≠ "__name__":=by decide) (hd:(x==("__debug__":Str))=false:=by decide):PE X (.Name x pos) (tC v):=
 fun _ _ _ H _ I h=>U1 I hg hm hv ⟨v,H,I,r,h⟩ hn hd
variable {a b:Expr}{ta tb:TE}{pos:Pos}
def PC (X:Cx)(op:CmpOp)(a b:Expr)(t:TE):Prop:=
 ∀(pins:List (Addr×Obj)) (s:Shared) (σ:St) (H:Hp) (Q:VK),Inv X pins σ H s->t σ H Q ->
  wpAny (model X.prog X.w) X.A (eval a X.env) (fun v s₁=>wpAny (model X.prog X.w) X.A (eval b X.env) (fun u s₂=>wpAny (model X.prog X.w) X.A (compareOp op v u) (EP X pins σ Q) X.xe s₂) X.xe s₁) X.xe s
def tB (t:TE):TT:=fun σ H Q=>t σ H fun x H1=>∃c,x=.bl c/\Q c H1
def Zig {op:CmpOp}{t:TE}(h:PC X op a b t)(h1:behindInMarks op b=false:=by first|exact nobehind _ (by decide) (by decide)|rfl):PT X (.Compare a [op] [b] pos) (tB t):=by
 intro pins s σ H Q I hw
 refine wpAny_isTrue_Compare1 (Yj (h pins s σ H _ I hw) fun v s1 h1=>Yj h1 fun u s2 h2=>Yj h2 fun c s3 ⟨x,H1,I1,r1,q1⟩=>?_) h1
 obtain⟨d,rfl,q⟩:=q1
 cases r1
 exact wpAny_truthy_bool ⟨H1,I1,q⟩
def Zih {e:Expr}{t:TE}(h:PE X e t)(he:∀whole,isTrue e X.env whole=(do let v <-whole;standAt e.pos;holding [v] (truthy v)):=by intro _;rfl):PT X e (tB t):=by
 intro pins s σ H Q I hw
 refine isTrue_plain (Yj (h pins s σ H _ I hw) fun v s1 ⟨x,H1,I1,r1,q1⟩=>?_) (he _)
 obtain⟨d,rfl,q⟩:=q1
 cases r1
 exact wpAny_truthy_bool ⟨H1,I1,q⟩
variable {tA tB':TT}{rest:List Expr}
def Znl (t u:TT):TT:=fun σ H Q=>t σ H fun c H1=>if c=true then u σ H1 Q else Q false H1
def Zo0 (t u:TT):TT:=fun σ H Q=>t σ H fun c H1=>if c=true then Q true H1 else u σ H1 Q
def Znm (t:TT):TT:=fun σ H Q=>t σ H fun c H1=>Q (!c) H1
def Zex (ha:PT X a tA):PW X (.BoolOp .And [a] pos) tA:=by
 intro wh pins s σ H Q I h
 refine isTrue_and (Yj (ha pins s σ H Q I h) fun c s1 e=>?_)
 cases c with
 |true=>exact isTrue_and_nil e
 |false=>exact e
def Zii (ha:PT X a tA):PW X (.BoolOp .Or [a] pos) tA:=by
 intro wh pins s σ H Q I h
 refine isTrue_or (Yj (ha pins s σ H Q I h) fun c s1 e=>?_)
 cases c with
 |false=>exact isTrue_or_nil e
 |true=>exact e
def Zij (ha:PT X a tA)(hb:PW X (.BoolOp .And (b::rest) pos) tB'):PW X (.BoolOp .And (a::b::rest) pos) (Znl tA tB'):=by
 intro wh pins s σ H Q I h
 refine isTrue_and (Yj (ha pins s σ H _ I h) fun c s1 ⟨H1,I1,q1⟩=>?_)
 cases c with
 |true=>exact hb wh pins s1 σ H1 Q I1 q1
 |false=>exact⟨H1,I1,q1⟩
def Zk8 (ha:PT X a tA)(hb:PW X (.BoolOp .Or (b::rest) pos) tB'):PW X (.BoolOp .Or (a::b::rest) pos) (Zo0 tA tB'):=by
 intro wh pins s σ H Q I h
 refine isTrue_or (Yj (ha pins s σ H _ I h) fun c s1 ⟨H1,I1,q1⟩=>?_)
 cases c with
 |true=>exact⟨H1,I1,q1⟩
 |false=>exact hb wh pins s1 σ H1 Q I1 q1
def Zik (ha:PT X a tA):PT X (.UnaryOp .Not a pos) (Znm tA):=by
 intro pins s σ H Q I h
 exact isTrue_not (ha pins s σ H (fun c H1=>Q (!c) H1) I h)
def Zk9 (ta tb:TE):TE:=fun σ H Q=>ta σ H fun x H1=>∃c,x=.bl c/\if c=true then tb σ H1 Q else Q (.bl false) H1
def Zla (ta:TE):TE:=fun σ H Q=>ta σ H fun x H1=>∃c,x=.bl c/\Q (.bl (!c)) H1
def Zil {op}{t:TE}(h:PE X a t):PE X (.BoolOp op [a] pos) t:=fun pins s σ H Q I hw=>BoolOp_one (h pins s σ H Q I hw)
def Zim (ha:PE X a ta)(hb:PE X (.BoolOp .And (b::rest) pos) tb):PE X (.BoolOp .And (a::b::rest) pos) (Zk9 ta tb):=by
 intro pins s σ H Q I h
 refine BoolOp_and (Yj (ha pins s σ H _ I h) fun v s1 ⟨x,H1,I1,r1,q1⟩=>?_)
 obtain⟨c,rfl,q1⟩:=q1
 cases r1
 refine wpAny_truthy_bool ?_
 cases c with
 |true=>exact hb pins s1 σ H1 Q I1 q1
 |false=>exact⟨.bl false,H1,I1,rfl,q1⟩
def Zin (ha:PE X a ta):PE X (.UnaryOp .Not a pos) (Zla ta):=by
 intro pins s σ H Q I h
 refine UnaryOp_ (Yj (ha pins s σ H _ I h) fun v s1 ⟨x,H1,I1,r1,q1⟩=>?_)
 obtain⟨c,rfl,q1⟩:=q1
 cases r1
 exact not_of (wpAny_truthy_bool ⟨.bl (!c),H1,I1,rfl,q1⟩)
def Zo1 (t:TT)(ta tb:TE):TE:=fun σ H Q=>t σ H fun c H1=>if c=true then ta σ H1 Q else tb σ H1 Q
def Au {c:Expr}(hc:PT X c tA)(ha:PE X a ta)(hb:PE X b tb):PE X (.IfExp c a b pos) (Zo1 tA ta tb):=by
 intro pins s σ H Q I h
 refine wpAny_IfExp (Yj (hc pins s σ H _ I h) fun d s1 ⟨H1,I1,q1⟩=>?_)
 cases d with
 |true=>exact ha pins s1 σ H1 Q I1 q1
 |false=>exact hb pins s1 σ H1 Q I1 q1
end
def SqL (K:PySem.W.Frag)(H:Hp)(a:Addr)(xs:List V):Prop:=
 Rd H a (.lst xs) \/
  ∃(o:Obj) (its:Array Value) (n:Nat),K.lookup a=some o/\o.cls=.type "list"/\o.dict=none/\o.data=.seq its n/\its.size<=sizeLine/\Vals xs its.toList
def SqT (K:PySem.W.Frag)(H:Hp)(a:Addr)(xs:List V):Prop:=
 Rd H a (.tup xs) \/
  ∃(o:Obj) (its:Array Value) (n:Nat),K.lookup a=some o/\o.cls=.type "tuple"/\o.data=.seq its n/\its.size<=sizeLine/\Vals xs its.toList
def Zey:Value->Option V
 |.none=>some .non
 |.bool b=>some (.bl b)
 |.int i _=>some (.int i)
 |.str x _=>some (.str x)
 |.bytes b _=>some (.byt b)
 |.float b _=>some (.flt b)
 |.ref a=>some (.ref a)
 |.type n=>some (.ty n)
 |_=>none
def RelV.abs {x:V}{u:Value}(r:RelV x u):Zey u=some x:=by
 cases x with
 |non=>cases r;rfl
 |bl _=>cases r;rfl
 |int _=>obtain⟨t,rfl⟩:=r;rfl
 |str _=>obtain⟨t,rfl⟩:=r;rfl
 |byt _=>obtain⟨t,rfl⟩:=r;rfl
 |flt _=>obtain⟨t,rfl⟩:=r;rfl
 |ref _=>cases r;rfl
 |ty _=>cases r;rfl
theorem RelV.inj {x y:V}{u:Value}(r:RelV x u)(q:RelV y u):x=y:=Option.some.inj (r.abs.symm.trans q.abs)
theorem Vals.inj:∀{xs ys:List V}{us:List Value},Vals xs us->Vals ys us->xs=ys
 |_,_,_,.nil,.nil=>rfl
 |_,_,_,.cons r t,.cons r' t'=>by rw[r.inj r',Vals.inj t t']
section
variable {X:Cx}{pins:List (Addr×Obj)}{σ:St}{H:Hp}{s:Shared}{a:Addr}{xs ys:List V}
def SqL.of {K:PySem.W.Frag}(h:H a=some (.lst xs)):SqL K H a xs:=.inl (.inl h)
def SqT.of {K:PySem.W.Frag}(h:H a=some (.tup xs)):SqT K H a xs:=.inl (.inl h)
def Inv.list (I:Inv X pins σ H s)(h:SqL X.K H a xs):∃its:List Value,Vals xs its/\PlainL s.heap a its.toArray/\xs.length<=sizeLine:=by
 rcases h with h|⟨o,its,n,hk,hc,hd,hs,hz,r⟩
 ·obtain⟨z,its,n,r,e⟩:=h.ok I.hok
  exact⟨its,r,⟨_,n,e,rfl,rfl,rfl⟩,z⟩
 ·refine⟨its.toList,r,⟨o,n,I.kIn a o hk,hc,hd,by simpa using hs⟩,?_⟩
  have e:=r.length
  simp only[Array.length_toList] at e
  omega
def Inv.tuple (I:Inv X pins σ H s)(h:SqT X.K H a xs):∃its:List Value,Vals xs its/\IsTup s.heap a its.toArray/\xs.length<=sizeLine:=by
 rcases h with h|⟨o,its,n,hk,hc,hs,hz,r⟩
 ·obtain⟨z,its,r,p⟩:=h.ok I.hok
  exact⟨its,r,p,z⟩
 ·refine⟨its.toList,r,⟨o,I.kIn a o hk,hc,n,by simpa using hs⟩,?_⟩
  have e:=r.length
  simp only[Array.length_toList] at e
  omega
def Inv.list_inj (I:Inv X pins σ H s)(h:SqL X.K H a xs)(h':SqL X.K H a ys):xs=ys:=by
 obtain⟨its,r,⟨o,n,e,_,_,d⟩,_⟩:=I.list h
 obtain⟨its',r',⟨o',n',e',_,_,d'⟩,_⟩:=I.list h'
 rw[e] at e';cases e'
 rw[d] at d'
 injection d' with d1 _
 have:its=its':=by simpa using congrArg Array.toList d1
 subst this
 exact r.inj r'
def Inv.tuple_inj (I:Inv X pins σ H s)(h:SqT X.K H a xs)(h':SqT X.K H a ys):xs=ys:=by
 obtain⟨its,r,⟨o,e,_,n,d⟩,_⟩:=I.tuple h
 obtain⟨its',r',⟨o',e',_,n',d'⟩,_⟩:=I.tuple h'
 rw[e] at e';cases e'
 rw[d] at d'
 injection d' with d1 _
 have:its=its':=by simpa using congrArg Array.toList d1
 subst this
 exact r.inj r'
end
abbrev Cx.wish (X:Cx)(E:Value->Shared->Prop):Cx:={X with xe:=E}
abbrev Cx.nox (X:Cx):Cx:=X.wish fun _ _=>False
theorem Cx.Ok.wish {X:Cx}(ok:X.Ok)(E:Value->Shared->Prop):(X.wish E).Ok:=
 ⟨ok.mod,ok.kind,ok.glob,ok.blt,ok.above,ok.inj,ok.has,ok.cab,ok.hd,ok.frames,ok.stk,ok.exf,ok.bs,ok.bsz,ok.noex,ok.exfs,ok.funs,ok.frf⟩
def Cx.Ok.unwish {X:Cx}{E:Value->Shared->Prop}(ok:(X.wish E).Ok):X.Ok:=
 ⟨ok.mod,ok.kind,ok.glob,ok.blt,ok.above,ok.inj,ok.has,ok.cab,ok.hd,ok.frames,ok.stk,ok.exf,ok.bs,ok.bsz,ok.noex,ok.exfs,ok.funs,ok.frf⟩
section
variable {X:Cx}{pins:List (Addr×Obj)}{σ:St}{H:Hp}{s:Shared}{E:Value->Shared->Prop}
theorem Inv.wish (I:Inv X pins σ H s)(E:Value->Shared->Prop):Inv (X.wish E) pins σ H s:=⟨I.ok.wish E,I.os,I.bare,I.base,I.loc,I.cell,I.free,I.freeC,I.pin,I.hok,I.len⟩
theorem Inv.unwish (I:Inv (X.wish E) pins σ H s):Inv X pins σ H s:=⟨I.ok.unwish,I.os,I.bare,I.base,I.loc,I.cell,I.free,I.freeC,I.pin,I.hok,I.len⟩
theorem SP.unwish {D:Ends}{f:Flow}{s':Shared}(h:SP (X.wish E) pins D f s'):SP X pins D f s':=by
 cases f with
 |next=>obtain⟨σ',H',I,q⟩:=h;exact⟨σ',H',I.unwish,q⟩
 |brk=>obtain⟨σ',H',I,q⟩:=h;exact⟨σ',H',I.unwish,q⟩
 |cont=>obtain⟨σ',H',I,q⟩:=h;exact⟨σ',H',I.unwish,q⟩
 |ret u=>obtain⟨v,σ',H',I,r,q⟩:=h;exact⟨v,σ',H',I.unwish,r,q⟩
theorem PSs.nox {st:List Stmt}{t:TS}(h:PSs X.nox st t):PSs X st t:=fun pins s σ H D I hw=>
 wpAny_mono (h pins s σ H D (I.wish _) hw) (fun _ _ q=>q.unwish) fun _ _ z=>False.elim z
end
section
variable {X:Cx}{st:Stmt}{rest:List Stmt}{t u:TS}{e:Expr}{te:TE}{pos:Pos}
def Zlb:TS:=fun D σ H=>D.nx σ H
def Znn (t u:TS):TS:=fun D σ H=>t {D with nx:=u D} σ H
def R0:PSs X [] Zlb:=fun _ _ σ H _ I h=>wpAny_execs_nil ⟨σ,H,I,h⟩
def Qj (h1:PS X st t)(h2:PSs X rest u):PSs X (st::rest) (Znn t u):=by
 intro pins s σ H D I h
 refine wpAny_execs_cons (Yj (h1 pins s σ H {D with nx:=u D} I h) fun f s1 q=>?_)
 cases f with
 |next=>
  obtain⟨σ',H',I',q⟩:=q
  exact h2 pins s1 σ' H' D I' q
 |ret v=>exact q
 |brk=>exact q
 |cont=>exact q
def X1 (h1:PS X st t):PSs X [st] t:=by
 intro pins s σ H D I h
 refine wpAny_execs_cons (Yj (h1 pins s σ H D I h) fun f s1 q=>?_)
 cases f with
 |next=>exact wpAny_execs_nil q
 |ret v=>exact q
 |brk=>exact q
 |cont=>exact q
def Inv.quiet {pins:List (Addr×Obj)}{σ:St}{H:Hp}{s:Shared}(I:Inv X pins σ H s):interactive X.env=false:=by simp[interactive,I.ok.kind]
def Zhi (te:TE):TS:=fun D σ H=>te σ H fun _ H1=>D.nx σ H1
def V6 (he:PE X e te)(hs:swapsWith e none pos.line X.env=pure false:=by rfl):PS X (.Expr e pos) (Zhi te):=by
 intro pins s σ H D I h
 exact wpAny_Expr_any (Yj (he pins s σ H _ I h) fun v s1 ⟨x,H1,I1,r1,q1⟩=>⟨σ,H1,I1,q1⟩) I.quiet hs
def Zno (te:TE):TS:=fun D σ H=>te σ H D.rt
def W3 (he:PE X e te):PS X (.Return (some e) pos) (Zno te):=by
 intro pins s σ H D I h
 exact wpAny_Return_some (Yj (he pins s σ H _ I h) fun v s1 ⟨x,H1,I1,r1,q1⟩=>⟨x,σ,H1,I1,r1,q1⟩)
def Znp (c:TT)(t u:TS):TS:=fun D σ H=>c σ H fun b H1=>if b=true then t D σ H1 else u D σ H1
def Fq {c:Expr}{a b:List Stmt}{tc:TT}(hc:PT X c tc)(ha:PSs X a t)(hb:PSs X b u):PS X (.If c a b pos) (Znp tc t u):=by
 intro pins s σ H D I h
 refine wpAny_If (Yj (hc pins s σ H _ I h) fun d s1 ⟨H1,I1,q1⟩=>?_)
 cases d with
 |true=>exact ha pins s1 σ H1 D I1 q1
 |false=>exact hb pins s1 σ H1 D I1 q1
end
abbrev TG:=V->St->Hp->(St->Hp->Prop)->Prop
abbrev Zhj:=List V->St->Hp->(St->Hp->Prop)->Prop
def PG (X:Cx)(target:Expr)(t:TG):Prop:=
 ∀(pins:List (Addr×Obj)) (s:Shared) (σ:St) (H:Hp) (v:V) (u:Value) (Q:St->Hp->Prop),Inv X pins σ H s->RelV v u->t v σ H Q ->
  wpAny (model X.prog X.w) X.A (assign target X.env u) (fun _ s'=>∃σ' H',Inv X pins σ' H' s'/\Q σ' H') X.xe s
def Zlc (X:Cx)(ts:List Expr)(t:Zhj):Prop:=
 ∀(pins:List (Addr×Obj)) (s:Shared) (σ:St) (H:Hp) (vs:List V) (us:List Value) (Q:St->Hp->Prop),Inv X pins σ H s->Vals vs us->t vs σ H Q ->
  wpAny (model X.prog X.w) X.A (assignInOrder ((assignEach ts X.env).map (·.2)) us) (fun _ s'=>∃σ' H',Inv X pins σ' H' s'/\Q σ' H') X.xe s
section
variable {X:Cx}{pos:Pos}
def Fs (i:Nat):TG:=fun v σ H Q=>Q (σ.set i (some v)) H
def R1 {i:Nat}{x:Str}(hN:X.N.Nodup)(hi:X.N[i]?=some x)(hx:Za8 X.env.scope x)(hf:X.fn x=true\/X.env.scope.names.lookup x=some .local:=by first|exact .inl rfl|exact .inr rfl|assumption):PG X (.Name x pos) (Fs i):=by
 intro pins s σ H v u Q I r h
 exact wpAny_assign_Name (Gn I hN hi hx r (fun s' I'=>⟨_,H,I',h⟩) hf)
def Zld:Zhj:=fun vs σ H Q=>vs=[]/\Q σ H
def Zbb (t:TG)(u:Zhj):Zhj:=fun vs σ H Q=>∃v r,vs=v::r/\t v σ H fun σ' H'=>u r σ' H' Q
def Ft:Zlc X [] Zld:=by
 intro pins s σ H vs us Q I r h
 obtain⟨e,h⟩:=h
 subst e
 cases r
 exact assignInOrder_nil ⟨σ,H,I,h⟩
def Sg {e:Expr}{es:List Expr}{t:TG}{u:Zhj}(h1:PG X e t)(h2:Zlc X es u)(hs:(assignEach (e::es) X.env).map (·.2)=assign e X.env::(assignEach es X.env).map (·.2):=by rfl):Zlc X (e::es) (Zbb t u):=by
 intro pins s σ H vs us Q I r h
 obtain⟨v,vr,e1,h⟩:=h
 subst e1
 cases r with
 |cons r rr=>
  rw[hs]
  refine assignInOrder_cons (Yj (h1 pins s σ H _ _ _ I r h) fun _ s1 ⟨σ1,H1,I1,q1⟩=>?_)
  exact h2 pins s1 σ1 H1 _ _ Q I1 rr q1
def Zle (te:TE)(g:TG):TS:=fun D σ H=>te σ H fun x H1=>g x σ H1 D.nx
def Zio {tg e:Expr}{te:TE}{g:TG}(he:PE X e te)(hg:PG X tg g)(hs:swapsWithSole [tg] e pos.line X.env=pure false:=by rfl)(hw:swappedStores [tg] e X.env=pure none:=by rfl)(h1:(assignEach [tg] X.env).map (·.2)=[assign tg X.env]:=by rfl):PS X (.Assign [tg] e pos) (Zle te g):=by
 intro pins s σ H D I h
 refine wpAny_Assign_stores (Yj (he pins s σ H _ I h) fun v s1 ⟨x,H1,I1,r1,q1⟩=>?_) hs hw
 rw[h1]
 exact Yj (hg pins s1 σ H1 x v _ I1 r1 q1) fun _ s2 q=>q
def Vr {i:Nat}{x:Str}{e:Expr}{te:TE}{pos':Pos}(hN:X.N.Nodup)(hi:X.N[i]?=some x)(hx:Za8 X.env.scope x)(he:PE X e te)(hs:swapsWith e (some (.Name x pos')) pos.line X.env=pure false:=by rfl)(hf:X.fn x=true\/X.env.scope.names.lookup x=some .local:=by first|exact .inl rfl|exact .inr rfl|assumption):
  PS X (.Assign [.Name x pos'] e pos) (Zle te (Fs i)):=by
 intro pins s σ H D I h
 refine wpAny_Assign_Name (Yj (he pins s σ H _ I h) fun v s1 ⟨y,H1,I1,r1,q1⟩=>?_) hs
 exact Gn I1 hN hi hx r1 (fun s2 I2=>⟨_,H1,I2,q1⟩) hf
def Znq (i j:Nat)(ta:TA):TS:=fun D σ H=>ta σ H fun vs H1=>∃v w,vs=[v,w]/\D.nx ((σ.set i (some v)).set j (some w)) H1
def Zip {i j:Nat}{x y:Str}{a b:Expr}{ta:TA}{px py pt:Pos}{kt k2 pt2}(hc:X.calm=true)(hN:X.N.Nodup)(hi:X.N[i]?=some x)(hj:X.N[j]?=some y)(hij:i≠j)(hx:X.env.scope.names.lookup x=some .local)(hy:X.env.scope.names.lookup y=some .local)(ha:PA X [a,b] ta)(hw:swappedStores [.Tuple [.Name x px,.Name y py] kt pt] (.Tuple [a,b] k2 pt2) X.env=pure (some [x,y]))(hs:swapsWithSole [.Tuple [.Name x px,.Name y py] kt pt] (.Tuple [a,b] k2 pt2) pos.line X.env=pure false:=by rfl):
  PS X (.Assign [.Tuple [.Name x px,.Name y py] kt pt] (.Tuple [a,b] k2 pt2) pos) (Znq i j ta):=by
 intro pins s σ H D I h
 rw[exec_Assign_arm]
 refine wpAny_bind (wpAny_standAt ?_)
 rw[hs]
 refine wpAny_bind (wpAny_pure ?_)
 rw[if_neg (by decide)]
 refine wpAny_bind (Tuple_ (Yj (ha _ pins s σ H _ I h) fun us s1 ⟨vs,H1,I1,r1,q1⟩=>?_))
 obtain⟨v,w,e1,q1⟩:=q1
 subst e1
 obtain⟨u1,u2,rfl,rv,rw'⟩:∃u1 u2,us=[u1,u2]/\RelV v u1/\RelV w u2:=by
  cases r1 with
  |cons p q=>
   cases q with
   |cons p' q'=>
    cases q'
    exact⟨_,_,rfl,p,p'⟩
 refine wpAny_newObj_type ?_ (by show 2<=sizeLine;decide)
 have I2:Inv X pins σ H1 {s1 with heap:=s1.heap.push {cls:=.type "tuple", data:=.seq [u1,u2].toArray}}:=I1.kept (t':=s1.toks) fun b o e=>Heap.get?_push_of_some _ e
 rw[hw]
 refine wpAny_bind (wpAny_pure ?_)
 show wpAny (model X.prog X.w) X.A (do rule "assign.swapped-stores"; let items <-unpackItems (.ref s1.heap.objs.size) 2 none;assignInOrder [fun v=>bindName X.env y v,fun v=>bindName X.env x v] items.reverse;pure Flow.next) _ _ _
 refine wpAny_bind (wpAny_rule (wpAny_bind (unpackItems_tuple (items:=#[u1,u2]) (I.ok.hd hc) (IsTup.new s1.heap _) fun h' hx'=>?_)))
 have I3:=I2.kept (h':=h') (t':=s1.toks) fun b o e=>hx' b o (Nat.ne_of_lt (Heap.lt_size e)) e
 show wpAny _ _ (assignInOrder [fun v=>bindName X.env y v,fun v=>bindName X.env x v] [u2,u1]>>=fun _=>pure Flow.next) _ _ _
 refine wpAny_bind (assignInOrder_cons (wpAny_bindName (Gn I3 hN hj (.inl hy) rw' (fun s2 I4=>?_) (.inr hy))))
 refine assignInOrder_cons (wpAny_bindName (Gn I4 hN hi (.inl hx) rv (fun s3 I5=>assignInOrder_nil (wpAny_pure ?_)) (.inr hx)))
 rw[List.set_comm _ _ (Ne.symm hij)] at I5
 exact⟨_,H1,I5,q1⟩
end
section
variable {X:Cx}{pos:Pos}
def Ziq (c:TT)(tb:TS):TS:=fun D σ H=>∃W:Nat->St->Hp->Prop,(∃m,W m σ H)/\∀m σ H,W m σ H ->
 c σ H fun b H1=>if b=true then ∃N:St->Hp->Prop,(∀σ' H',N σ' H'->∃m',m'<m/\W m' σ' H')/\tb {D with nx:=N,ct:=N,bk:=D.nx} σ H1 else D.nx σ H1
def Av {c:Expr}{body:List Stmt}{tc:TT}{tb:TS}(hp:PassesOwn (model X.prog X.w) X.A X.env X.xe)(hc:PT X c tc)(hb:PSs X body tb):PS X (.While c body [] pos) (Ziq tc tb):=by
 intro pins s σ H D I h
 obtain⟨W,⟨m0,w0⟩,turn⟩:=h
 refine wpAny_While (codeAny_whileLoop (fun n s'=>∃σ' H',Inv X pins σ' H' s'/\W n σ' H') ?_ m0 ⟨σ,H,I,w0⟩)
 rintro n s1 ⟨σ1,H1,I1,w1⟩
 refine wpAny_passesOwn hp (Yj (hc pins s1 σ1 H1 _ I1 (turn n σ1 H1 w1)) fun b s2 ⟨H2,I2,q2⟩=>?_)
 cases b with
 |true=>
  obtain⟨N,hN,q2⟩:=q2
  rw[if_pos rfl]
  refine wpAny_passesOwn hp (Yj (hb pins s2 σ1 H2 _ I2 q2) fun f s3 q3=>?_)
  cases f with
  |next=>
   obtain⟨σ3,H3,I3,n3⟩:=q3
   obtain⟨m',hm,w3⟩:=hN σ3 H3 n3
   exact⟨m',hm,σ3,H3,I3,w3⟩
  |cont=>
   obtain⟨σ3,H3,I3,n3⟩:=q3
   obtain⟨m',hm,w3⟩:=hN σ3 H3 n3
   exact⟨m',hm,σ3,H3,I3,w3⟩
  |brk=>exact q3
  |ret v=>exact q3
 |false=>
  rw[if_neg Bool.false_ne_true]
  exact wpAny_execs_nil ⟨σ1,H2,I2,q2⟩
end
structure It where
 go:Nat->Hp->Prop
 yld:Nat->Hp->V->Hp->Prop
 stop:Nat->Hp->Prop
def Rm (X:Cx)(pins:List (Addr×Obj))(H:Hp)(b:Addr):Prop:=
 H b=none/\b≠X.env.locals/\b ∉ X.fs/\(b∈X.ex\/X.s₀.heap.objs.size<=b)/\(∀x c,X.env.cells.lookup x=some c->c≠b)/\∀p∈X.pn++pins,p.1≠b
def Inv.fpOk {X:Cx}{pins:List (Addr×Obj)}{σ:St}{H H':Hp}{s:Shared}{b:Addr}(I:Inv X pins σ H s)(hb:s.heap.objs.size<=b)(hn:H' b=none):Rm X pins H' b:=by
 refine⟨hn,Nat.ne_of_gt (Nat.lt_of_lt_of_le I.lt hb),I.nofs hb,.inr (Nat.le_trans I.sz hb),fun x c e z=>?_,fun p hp z=>?_⟩
 ·obtain⟨v,q⟩:=I.cell x c e
  exact absurd (Nat.lt_of_lt_of_le q.lt (by rw[z];exact hb)) (Nat.lt_irrefl _)
 ·exact absurd (Nat.lt_of_lt_of_le (Heap.lt_size (I.pin p hp).1) (by rw[z];exact hb)) (Nat.lt_irrefl _)
structure Turn (P:Program) (w:World) (K:PySem.W.Frag) (tg:Expr) (J:It) (fp:List Addr) (it:Addr) (tn:Nat->Heap->Prop):Prop where
 mem:it∈fp
 obj:∀i h,tn i h->∀b∈fp,∃o,h.get? b=some o/\∀v,o.data≠.cell v
 keep:∀i h h',tn i h->(∀b∈fp,∀o,h.get? b=some o->h'.get? b=some o)->tn i h'
 item:∀(X:Cx),X.prog=P->X.w=w->X.K=K->X.calm=true->∀(i:Nat) (pins:List (Addr×Obj)) (s:Shared) (σ:St) (H:Hp) (E:Value->Shared->Prop),Inv X pins σ H s->(∀b∈fp,Rm X pins H b)->tn i s.heap->J.go i H ->
  wpAny (model P w) X.A (pyNext (.ref it)) (fun r s1=>∃u,r=some u /\
   wpAny (model P w) X.A (letOwnedTupleGo tg (.ref it) u) (fun _ s2=>∃x H',Inv X pins σ H' s2/\RelV x u/\J.yld i H x H'/\tn (i+1) s2.heap/\∀b∈fp,H' b=none) E s1) E s
 done:∀(X:Cx),X.prog=P->X.w=w->X.K=K->X.calm=true->∀(i:Nat) (pins:List (Addr×Obj)) (s:Shared) (σ:St) (H:Hp) (E:Value->Shared->Prop),Inv X pins σ H s->(∀b∈fp,Rm X pins H b)->tn i s.heap->J.stop i H ->
  wpAny (model P w) X.A (pyNext (.ref it)) (fun r s1=>r=none/\Inv X pins σ H s1) E s
 self:∀(A:Around) (i:Nat) (s:Shared) (Q:Value->Shared->Prop) (E:Value->Shared->Prop),tn i s.heap->Q (.ref it) s->wpAny (model P w) A (pyIter (.ref it)) Q E s
abbrev TI:=St->Hp->(It->Hp->Prop)->Prop
def Zor (X:Cx)(pins:List (Addr×Obj))(σ:St)(tg:Expr)(R:It->Hp->Prop)(itv:Value)(s2:Shared):Prop:=
 ∃(it:Addr) (fp:List Addr) (tn:Nat->Heap->Prop) (J:It) (H':Hp),itv=.ref it/\Inv X pins σ H' s2/\Turn X.prog X.w X.K tg J fp it tn/\tn 0 s2.heap/\(∀b∈fp,Rm X pins H' b)/\R J H'
def PI (X:Cx)(tg iter:Expr)(wi:TI):Prop:=
 ∀(pins:List (Addr×Obj)) (s:Shared) (σ:St) (H:Hp) (R:It->Hp->Prop),Inv X pins σ H s->wi σ H R ->
  wpAny (model X.prog X.w) X.A (eval iter X.env) (fun v s1=>wpAny (model X.prog X.w) X.A (pyIter v) (Zor X pins σ tg R) X.xe s1) X.xe s
def Zbc {M:Model}{A:Around}{E:Value->Shared->Prop}{s:Shared}{tg:Expr}{it:Addr}{u:Value}{o:Obj}{n:String}{vs:Array Value}{Q:Unit->Shared->Prop}(ho:s.heap.get? it=some o)(hc:o.cls=.type n)(hd:o.data=.fields vs)
  (hn:["enumerate","zip","dict_itemiterator","dict_reverseitemiterator","odict_iterator","itertools.zip_longest","itertools.pairwise"].contains n=false) (hQ:Q () s):wpAny M A (letOwnedTupleGo tg (.ref it) u) Q E s:=by
 unfold letOwnedTupleGo
 cases tg<;>first
  |exact wpAny_pure hQ
  |(cases u<;>first
    |exact wpAny_pure hQ
    |(refine wpAny_bind (wpAny_load ho ?_)
      rw[hc,hd]
      show wpAny M A (if(["enumerate","zip","dict_itemiterator","dict_reverseitemiterator","odict_iterator","itertools.zip_longest","itertools.pairwise"].contains n&&vs[0]?==some (rawInt _))=true then _ else _) Q E s
      rw[if_neg (by intro h;rw[hn,Bool.false_and] at h;cases h)]
      exact wpAny_pure hQ))
def Zm5 (K:PySem.W.Frag)(a:Addr):It:=
 ⟨fun i H=>∃xs x,SqL K H a xs/\xs[i]?=some x,fun i H x H'=>H'=H/\∀xs,SqL K H a xs->xs[i]?=some x,fun i H=>∃xs,SqL K H a xs/\xs.length<=i⟩
def Zkx (K:PySem.W.Frag)(a:Addr):It:=
 ⟨fun i H=>∃xs x,SqT K H a xs/\xs[i]?=some x,fun i H x H'=>H'=H/\∀xs,SqT K H a xs->xs[i]?=some x,fun i H=>∃xs,SqT K H a xs/\xs.length<=i⟩
def Zlf (lo:Int)(n:Nat):It:=⟨fun i _=>i<n,fun i H x H'=>H'=H/\x=.int (lo+i),fun i _=>n<=i⟩
def Ln {P:Program}{w:World}{K:PySem.W.Frag}{tg:Expr}(a it:Addr):Turn P w K tg (Zm5 K a) [it] it (fun i h=>h.IsListIter it a i) where
 mem:=by simp
 obj:=fun i h st b hb=>by
  have e:b=it:=by simpa using hb
  subst e
  obtain⟨o,e,c,d⟩:=st
  exact⟨o,e,fun v z=>by rw[d] at z;cases z⟩
 keep:=fun i h h' st k=>st.at fun o e=>k it (by simp) o e
 item:=by
  intro X hP hw hK hc i pins s σ H E I hf st hg
  subst hP hw hK
  obtain⟨xs,x,hq,hx⟩:=hg
  obtain⟨its,rv,p,hz⟩:=I.list hq
  obtain⟨u,hu,ru⟩:=rv.get hx
  obtain⟨f0,f1,f2,f3,f4,f5⟩:=hf it (by simp)
  refine wpAny_pyNext_list_item st p.isList (x:=u) (by simpa using hu) fun h' st' sb=>?_
  have I1:Inv X pins σ H {s with heap:=h'}:=I.turned (t':=s.toks) (fun b o hb e=>(sb.2 b hb).trans e) f0 f1 f3 f4 f5
  obtain⟨o,e,c,d⟩:=id st'
  exact⟨u,rfl,Zbc (s:={s with heap:=h'}) e c d (by decide) ⟨x,H,I1,ru,⟨rfl,fun ys hy=>by rw[I.list_inj hy hq];exact hx⟩,st',fun b hb=>(hf b hb).1⟩⟩
 done:=by
  intro X hP hw hK hc i pins s σ H E I hf st hg
  subst hP hw hK
  obtain⟨xs,hq,hx⟩:=hg
  obtain⟨its,rv,p,hz⟩:=I.list hq
  obtain⟨f0,f1,f2,f3,f4,f5⟩:=hf it (by simp)
  have hl:=rv.length
  exact wpAny_pyNext_list_end (I.ok.hd hc) st p.isList (by simp;omega) fun h' eb=>⟨rfl,I.turned (t':=s.toks) (fun b o hb e=>eb b o hb e) f0 f1 f3 f4 f5⟩
 self:=fun _ _ _ _ _ st h=>wpAny_pyIter_listiter st h
def Sh {P:Program}{w:World}{K:PySem.W.Frag}{tg:Expr}(a it:Addr):Turn P w K tg (Zkx K a) [it] it (fun i h=>h.IsTupleIter it a i) where
 mem:=by simp
 obj:=fun i h st b hb=>by
  have e:b=it:=by simpa using hb
  subst e
  obtain⟨o,e,c,d⟩:=st
  exact⟨o,e,fun v z=>by rw[d] at z;cases z⟩
 keep:=fun i h h' st k=>st.at fun o e=>k it (by simp) o e
 item:=by
  intro X hP hw hK hc i pins s σ H E I hf st hg
  subst hP hw hK
  obtain⟨xs,x,hq,hx⟩:=hg
  obtain⟨its,rv,p,hz⟩:=I.tuple hq
  obtain⟨u,hu,ru⟩:=rv.get hx
  obtain⟨f0,f1,f2,f3,f4,f5⟩:=hf it (by simp)
  refine wpAny_pyNext_tuple_item st (show s.heap.IsTuple a its.toArray from p) (x:=u) (by simpa using hu) fun h' st' sb=>?_
  have I1:Inv X pins σ H {s with heap:=h'}:=I.turned (t':=s.toks) (fun b o hb e=>(sb.2 b hb).trans e) f0 f1 f3 f4 f5
  obtain⟨o,e,c,d⟩:=id st'
  exact⟨u,rfl,Zbc (s:={s with heap:=h'}) e c d (by decide) ⟨x,H,I1,ru,⟨rfl,fun ys hy=>by rw[I.tuple_inj hy hq];exact hx⟩,st',fun b hb=>(hf b hb).1⟩⟩
 done:=by
  intro X hP hw hK hc i pins s σ H E I hf st hg
  subst hP hw hK
  obtain⟨xs,hq,hx⟩:=hg
  obtain⟨its,rv,p,hz⟩:=I.tuple hq
  obtain⟨f0,f1,f2,f3,f4,f5⟩:=hf it (by simp)
  have hl:=rv.length
  exact wpAny_pyNext_tuple_end (I.ok.hd hc) st (show s.heap.IsTuple a its.toArray from p) (by simp;omega) fun h' eb=>⟨rfl,I.turned (t':=s.toks) (fun b o hb e=>eb b o hb e) f0 f1 f3 f4 f5⟩
 self:=fun _ _ _ _ _ st h=>wpAny_pyIter_tupleiter st h
def D4 {P:Program}{w:World}{K:PySem.W.Frag}{tg:Expr}(it:Addr)(lo:Int)(n:Nat):Turn P w K tg (Zlf lo n) [it] it (fun i h=>IsRangeIter h it (lo+(i:Nat)*1) ((n:Int)-(i:Nat)) 1) where
 mem:=by simp
 obj:=fun i h st b hb=>by
  have e:b=it:=by simpa using hb
  subst e
  exact⟨_,st,fun v z=>by
   have z':Data.fields _=Data.cell v:=z
   cases z'⟩
 keep:=fun i h h' st k=>k it (by simp) _ st
 item:=by
  intro X hP hw hK hc i pins s σ H E I hf st hg
  subst hP hw hK
  obtain⟨f0,f1,f2,f3,f4,f5⟩:=hf it (by simp)
  have W:=Walks.range (prog:=X.prog) (w:=X.w) (I.ok.hd hc) it lo 1 n
  refine W.item i s _ _ hg st fun v h' tk hv st' kk=>?_
  obtain⟨t,rfl⟩:=hv
  have I1:Inv X pins σ H {s with heap:=h',toks:=tk}:=I.turned (fun b o hb e=>kk b o (by simpa using hb) e) f0 f1 f3 f4 f5
  refine⟨_,rfl,Zbc (s:={s with heap:=h',toks:=tk}) (n:="range_iterator") st' rfl rfl (by decide) ⟨.int (lo+i),H,I1,⟨t,?_⟩,⟨rfl,rfl⟩,st',fun b hb=>(hf b hb).1⟩⟩
  rw[Int.mul_one]
 done:=by
  intro X hP hw hK hc i pins s σ H E I hf st hg
  subst hP hw hK
  obtain⟨f0,f1,f2,f3,f4,f5⟩:=hf it (by simp)
  exact wpAny_pyNext_range_end (I.ok.hd hc) st (by have:n<=i:=hg;omega) fun h' eb=>⟨rfl,I.turned (t':=s.toks) (fun b o hb e=>eb b o hb e) f0 f1 f3 f4 f5⟩
 self:=fun _ _ _ _ _ st h=>wpAny_pyIter_rangeiter st h
section
variable {X:Cx}{tg:Expr}
def Zlg (K:PySem.W.Frag)(tl:TE):TI:=fun σ H R=>tl σ H fun x H1=>∃a,x=.ref a/\(∃xs,SqL K H1 a xs)/\R (Zm5 K a) H1
def Znr (K:PySem.W.Frag)(tl:TE):TI:=fun σ H R=>tl σ H fun x H1=>∃a,x=.ref a/\(∃xs,SqT K H1 a xs)/\R (Zkx K a) H1
def Zez {l:Expr}{tl:TE}(hl:PE X l tl):PI X tg l (Zlg X.K tl):=by
 intro pins s σ H R I h
 refine Yj (hl pins s σ H _ I h) fun v s1 ⟨x,H1,I1,r1,q1⟩=>?_
 obtain⟨a,e,⟨xs,hq⟩,q⟩:=q1
 subst e
 cases r1
 obtain⟨its,rv,p,hz⟩:=I1.list hq
 refine wpAny_pyIter_list p.isList ?_
 refine⟨s1.heap.objs.size,[s1.heap.objs.size],_,_,H1,rfl,I1.kept (t':=s1.toks) fun b o e=>Heap.get?_push_of_some _ e,Ln a _,⟨_,Heap.get?_push_size _ rfl,rfl,rfl⟩,fun b hb=>?_,q⟩
 have e:b=s1.heap.objs.size:=by simpa using hb
 subst e
 exact I1.fpOk (Nat.le_refl _) (I1.hok.fresh (Nat.le_refl _))
def Zir {l:Expr}{tl:TE}(hl:PE X l tl):PI X tg l (Znr X.K tl):=by
 intro pins s σ H R I h
 refine Yj (hl pins s σ H _ I h) fun v s1 ⟨x,H1,I1,r1,q1⟩=>?_
 obtain⟨a,e,⟨xs,hq⟩,q⟩:=q1
 subst e
 cases r1
 obtain⟨its,rv,p,hz⟩:=I1.tuple hq
 refine wpAny_pyIter_tuple (show s1.heap.IsTuple a its.toArray from p) ?_
 refine⟨s1.heap.objs.size,[s1.heap.objs.size],_,_,H1,rfl,I1.kept (t':=s1.toks) fun b o e=>Heap.get?_push_of_some _ e,Sh a _,⟨_,Heap.get?_push_size _ rfl,rfl,rfl⟩,fun b hb=>?_,q⟩
 have e:b=s1.heap.objs.size:=by simpa using hb
 subst e
 exact I1.fpOk (Nat.le_refl _) (I1.hok.fresh (Nat.le_refl _))
def Aw {pins:List (Addr×Obj)}{σ:St}{H:Hp}{s:Shared}{R:It->Hp->Prop}{E:Value->Shared->Prop}{lo hi:Int}{t u v:Tok}{tk:Nat}(I:Inv X pins σ H s)(h1:-(2 ^ 62)<=lo)(h2:lo<2 ^ 62)(h3:-(2 ^ 62)<=hi)(h4:hi<2 ^ 62)(q:R (Zlf lo (hi-lo).toNat) H):wpAny (model X.prog X.w) X.A (pyIter (.ref s.heap.objs.size)) (Zor X pins σ tg R) E {s with heap:=s.heap.push {cls:=.type "range", data:=.fields #[.int lo t,.int hi u,.int 1 v]},toks:=tk}:=by
 refine wpAny_pyIter_range (IsRange.new ..) (small_one h1 h2 h3 h4) ?_
 have I1:Inv X pins σ H {s with heap:=s.heap.push {cls:=.type "range", data:=.fields #[.int lo t,.int hi u,.int 1 v]},toks:=tk}:=I.kept fun b o e=>Heap.get?_push_of_some _ e
 refine⟨(s.heap.push {cls:=.type "range", data:=.fields #[.int lo t,.int hi u,.int 1 v]}).objs.size,[(s.heap.push {cls:=.type "range", data:=.fields #[.int lo t,.int hi u,.int 1 v]}).objs.size],_,_,H,rfl,
  I1.kept (t':=tk) fun b o e=>Heap.get?_push_of_some _ e,D4 _ lo (hi-lo).toNat,?_,fun b hb=>?_,q⟩
 ·have e1:lo+((0:Nat):Int)*1=lo:=by simp
  have e2:(((hi-lo).toNat:Nat):Int)-((0:Nat):Int)=Builtin.Range.rangeSize lo hi 1:=by rw[rangeSize_one];split<;>omega
  show IsRangeIter _ _ (lo+((0:Nat):Int)*1) ((((hi-lo).toNat:Nat):Int)-((0:Nat):Int)) 1
  rw[e1,e2]
  exact Heap.get?_push_size _ rfl
 ·have e:b=(s.heap.push {cls:=.type "range", data:=.fields #[.int lo t,.int hi u,.int 1 v]}).objs.size:=by simpa using hb
  subst e
  exact I1.fpOk (Nat.le_refl _) (I1.hok.fresh (Nat.le_refl _))
def Zlh (ta:TA):TI:=fun σ H R=>ta σ H fun vs H1=>∃j:Int,vs=[.int j]/\-(2 ^ 62)<=j/\j<2 ^ 62/\R (Zlf 0 j.toNat) H1
def Zli (ta:TA):TI:=fun σ H R=>ta σ H fun vs H1=>∃i j:Int,vs=[.int i,.int j]/\(-(2 ^ 62)<=i/\i<2 ^ 62/\-(2 ^ 62)<=j/\j<2 ^ 62)/\R (Zlf i (j-i).toNat) H1
def Og {a:Expr}{ta:TA}{p pos:Pos} (hg:Gl X "range") (hm:X.mg "range"=none) (ha:PA X [a] ta) (hs:starEach [a] X.env=[(false,eval a X.env)]:=by rfl):PI X tg (.Call (.Name "range" p) [a] [] pos) (Zlh ta):=by
 intro pins s σ H R I h
 refine Call_ (U1 I hg hm boot_range (PyProof.Rows.callWith_type1 (Yj (ha pos pins s σ H _ I h) fun us s1 ⟨vs,H1,I1,r1,q1⟩=>?_) hs rfl))
 obtain⟨j,e,q1,q2,q⟩:=q1
 subst e
 cases r1 with
 |cons r rr=>
  cases rr
  obtain⟨t,rfl⟩:=r
  exact call_range_1 (Aw I1 (by omega) (by omega) q1 q2 (by simpa using q))
def Oh {a b:Expr}{ta:TA}{p pos:Pos} (hg:Gl X "range") (hm:X.mg "range"=none) (ha:PA X [a,b] ta) (hs:starEach [a,b] X.env=[(false,eval a X.env),(false,eval b X.env)]:=by rfl) (hs2:starEach [b] X.env=[(false,eval b X.env)]:=by rfl):
  PI X tg (.Call (.Name "range" p) [a,b] [] pos) (Zli ta):=by
 intro pins s σ H R I h
 refine Call_ (U1 I hg hm boot_range (PyProof.Rows.callWith_type1 (Yj (ha pos pins s σ H _ I h) fun us s1 ⟨vs,H1,I1,r1,q1⟩=>?_) (by rw[hs,hs2]) (by rw[hs2];rfl)))
 obtain⟨i,j,e,⟨q1,q2,q3,q4⟩,q⟩:=q1
 subst e
 cases r1 with
 |cons r rr=>
  cases rr with
  |cons r' rr=>
   cases rr
   obtain⟨t,rfl⟩:=r
   obtain⟨t',rfl⟩:=r'
   exact call_range_2 (Aw I1 q1 q2 q3 q4 q)
def Zns (wi:TI)(g:TG)(tb:TS):TS:=fun D σ H=>wi σ H fun J H1=>∃W:Nat->Nat->St->Hp->Prop,(∃m,W 0 m σ H1)/\∀i m σ H,W i m σ H ->
 (J.stop i H/\D.nx σ H)\/(J.go i H/\∃N:St->Hp->Prop,(∀σ' H',N σ' H'->∃m',m'<m/\W (i+1) m' σ' H')/\∀x H',J.yld i H x H'->g x σ H' fun σ2 H2=>tb {D with nx:=N,ct:=N,bk:=D.nx} σ2 H2)
def M1 (fp:List Addr)(h:Heap):List (Addr×Obj):=fp.filterMap fun b=>(h.get? b).map fun o=>(b,o)
def Xh {fp:List Addr}{h:Heap}{b:Addr}{o:Obj}(hb:b∈fp)(e:h.get? b=some o):(b,o)∈M1 fp h:=List.mem_filterMap.mpr ⟨b,hb,by rw[e];rfl⟩
def Oi {fp:List Addr}{h:Heap}{p:Addr×Obj}(hp:p∈M1 fp h):p.1∈fp/\h.get? p.1=some p.2:=by
 obtain⟨b,hb,e⟩:=List.mem_filterMap.mp hp
 cases q:h.get? b with
 |none=>rw[q] at e;cases e
 |some o=>
  rw[q] at e
  have e':(b,o)=p:=Option.some.inj e
  subst e'
  exact⟨hb,q⟩
def Inv.pinned {pins:List (Addr×Obj)}{σ:St}{H:Hp}{s:Shared}{fp:List Addr}(I:Inv X pins σ H s)(hf:∀b∈fp,Rm X pins H b)(ho:∀b∈fp,∃o,s.heap.get? b=some o/\∀v,o.data≠.cell v):Inv X (pins++M1 fp s.heap) σ H s:=
 I.pins_of fun p hp=>(List.mem_append.mp hp).elim (fun z=>I.pin p (List.mem_append_right _ z)) fun z=>by
  obtain⟨hb,e⟩:=Oi z
  obtain⟨f0,f1,f2,_⟩:=hf p.1 hb
  obtain⟨o,e',d⟩:=ho p.1 hb
  rw[e] at e';cases e'
  exact⟨e,f0,f1,f2,d⟩
def Inv.unpinned {pins pl:List (Addr×Obj)}{σ:St}{H:Hp}{s:Shared}(I:Inv X (pins++pl) σ H s):Inv X pins σ H s:=I.pins_of fun p hp=>I.pin p (List.mem_append_right _ (List.mem_append_left _ hp))
def M3 {iter:Expr}{body:List Stmt}{wi:TI}{g:TG}{tb:TS}{pos:Pos}(hp:PassesOwn (model X.prog X.w) X.A X.env X.xe)(hc:X.calm=true)(hi:PI X tg iter wi)(hg:PG X tg g)(hb:PSs X body tb)(hs:∀x,foldedSetIterable iter X.env x=pure x:=by intro _;rfl):PS X (.For tg iter body [] pos) (Zns wi g tb):=by
 intro pins s σ H D I h
 refine wpAny_For (Yj (hi pins s σ H _ I h) fun v s1 h1=>Yj h1 fun itv s2 h2=>?_) hs
 obtain⟨it,fp,tn,J,H2,e,I2,T,Za3,f2,W,⟨m0,w0⟩,turn⟩:=h2
 subst e
 have stat:∀{H':Hp},(∀b∈fp,H' b=none)->∀b∈fp,Rm X pins H' b:=fun hn b hb=>⟨hn b hb,(f2 b hb).2⟩
 refine codeAny_forLoop_any (fun n s'=>∃i σ' H',Inv X pins σ' H' s'/\tn i s'.heap/\(∀b∈fp,H' b=none)/\W i n σ' H') ?_ m0 ⟨0,σ,H2,I2,Za3,fun b hb=>(f2 b hb).1,w0⟩
 rintro n s3 ⟨i,σ3,H3,I3,st3,fr3,w3⟩
 rcases turn i n σ3 H3 w3 with⟨stop,qn⟩|⟨go,N,hN,step⟩
 ·refine wpAny_passesOwn hp (Yj (T.done X rfl rfl rfl hc i pins s3 σ3 H3 X.xe I3 (stat fr3) st3 stop) fun r s4 ⟨hr,I4⟩=>?_)
  subst hr
  exact wpAny_execs_nil ⟨σ3,H3,I4,qn⟩
 ·refine wpAny_passesOwn hp (Yj (T.item X rfl rfl rfl hc i pins s3 σ3 H3 X.xe I3 (stat fr3) st3 go) fun r s4 ⟨u,hr,h4⟩=>?_)
  subst hr
  refine wpAny_passesOwn hp (Yj h4 fun _ s5 ⟨x,H5,I5,r5,y5,st5,fr5⟩=>?_)
  have I5':=I5.pinned (stat fr5) (T.obj _ _ st5)
  refine wpAny_passesOwn hp (Yj (hg _ s5 σ3 H5 x u _ I5' r5 (step x H5 y5)) fun _ s6 ⟨σ6,H6,I6,q6⟩=>?_)
  refine wpAny_passesOwn hp (Yj (hb _ s6 σ6 H6 _ I6 q6) fun f s7 q7=>?_)
  have again:∀{σ7:St}{H7:Hp},Inv X (pins++M1 fp s5.heap) σ7 H7 s7->N σ7 H7->∃m,m<n/\∃i σ' H',Inv X pins σ' H' s7/\tn i s7.heap/\(∀b∈fp,H' b=none)/\W i m σ' H':=fun {σ7 H7} I7 n7=>by
   obtain⟨m',hm,w7⟩:=hN σ7 H7 n7
   refine⟨m',hm,i+1,σ7,H7,I7.unpinned,T.keep _ _ _ st5 fun b hb o e=>(I7.pin (b,o) (List.mem_append_right _ (List.mem_append_right _ (Xh hb e)))).1,fun b hb=>?_,w7⟩
   obtain⟨o,e,d⟩:=T.obj _ _ st5 b hb
   exact(I7.pin (b,o) (List.mem_append_right _ (List.mem_append_right _ (Xh hb e)))).2.1
  cases f with
  |next=>obtain⟨σ7,H7,I7,n7⟩:=q7;exact again I7 n7
  |cont=>obtain⟨σ7,H7,I7,n7⟩:=q7;exact again I7 n7
  |brk=>obtain⟨σ7,H7,I7,q7⟩:=q7;exact⟨σ7,H7,I7.unpinned,q7⟩
  |ret v=>obtain⟨x7,σ7,H7,I7,r7,q7⟩:=q7;exact⟨x7,σ7,H7,I7.unpinned,r7,q7⟩
end
abbrev R2:=V->V->Hp->VK->Prop
def OpR (X:Cx)(f:Value->Value->Sem Value)(r:R2):Prop:=
 ∀(pins:List (Addr×Obj)) (s:Shared) (σ:St) (H:Hp) (x y:V) (v u:Value) (Q:VK),Inv X pins σ H s->RelV x v->RelV y u->r x y H Q ->
  wpAny (model X.prog X.w) X.A (f v u) (EP X pins σ Q) X.xe s
def Zm6 (X:Cx)(f:Value->Sem Value)(r:V->Hp->VK->Prop):Prop:=
 ∀(pins:List (Addr×Obj)) (s:Shared) (σ:St) (H:Hp) (x:V) (v:Value) (Q:VK),Inv X pins σ H s->RelV x v->r x H Q ->
  wpAny (model X.prog X.w) X.A (f v) (EP X pins σ Q) X.xe s
def CallR (X:Cx)(f:Value)(r:List V->Hp->VK->Prop):Prop:=
 ∀(pins:List (Addr×Obj)) (s:Shared) (σ:St) (H:Hp) (xs:List V) (us:List Value) (Q:VK),Inv X pins σ H s->Vals xs us->r xs H Q ->
  wpAny (model X.prog X.w) X.A (call f us) (EP X pins σ Q) X.xe s
def Zky (r:R2)(ta tb:TE):TE:=fun σ H Q=>ta σ H fun x H1=>tb σ H1 fun y H2=>r x y H2 Q
def Zo2 (r:V->Hp->VK->Prop)(ta:TE):TE:=fun σ H Q=>ta σ H fun x H1=>r x H1 Q
def rI (C:Int->Int->Prop)(g:Int->Int->V):R2:=fun x y H Q=>∃i j,x=.int i/\y=.int j/\C i j/\Q (g i j) H
def Ze0 (g:Int->Int->V):R2:=fun x y H Q=>∃i j,x=.int i/\y=.int j/\Q (g i j) H
def rU (g:Int->V):V->Hp->VK->Prop:=fun x H Q=>∃i,x=.int i/\Q (g i) H
section
variable {X:Cx}{a b c:Expr}{ta tb tc:TE}{pos:Pos}
def Zis (ha:PE X a ta)(hb:PE X b tb){pins:List (Addr×Obj)}{s:Shared}{σ:St}{H:Hp}{R:V->V->Hp->Prop}(I:Inv X pins σ H s)(h:ta σ H fun x H1=>tb σ H1 fun y H2=>R x y H2){Q:Value->Shared->Prop}{f:Value->Value->Sem Value}(hf:∀v u s2 x y H2,Inv X pins σ H2 s2->RelV x v->RelV y u->R x y H2->wpAny (model X.prog X.w) X.A (f v u) Q X.xe s2):
  wpAny (model X.prog X.w) X.A (eval a X.env) (fun v s₁=>wpAny (model X.prog X.w) X.A (eval b X.env) (fun u s₂=>wpAny (model X.prog X.w) X.A (f v u) Q X.xe s₂) X.xe s₁) X.xe s:=by
 refine Yj (ha pins s σ H _ I h) fun v s1 ⟨x,H1,I1,r1,q1⟩=>?_
 refine Yj (hb pins s1 σ H1 _ I1 q1) fun u s2 ⟨y,H2,I2,r2,q2⟩=>?_
 exact hf v u s2 x y H2 I2 r1 r2 q2
def Zbd {op:Operator}{r:R2}(ho:OpR X (binaryOp op) r)(ha:PE X a ta)(hb:PE X b tb):PE X (.BinOp a op b pos) (Zky r ta tb):=by
 intro pins s σ H Q I h
 exact wpAny_BinOp (Zis ha hb I h fun v u s2 x y H2 I2 rx ry q=>ho pins s2 σ H2 x y v u Q I2 rx ry q)
def Zbe {op:UnaryOp}{r:V->Hp->VK->Prop}(ho:Zm6 X (unaryOp op) r)(ha:PE X a ta):PE X (.UnaryOp op a pos) (Zo2 r ta):=by
 intro pins s σ H Q I h
 exact UnaryOp_ (Yj (ha pins s σ H _ I h) fun v s1 ⟨x,H1,I1,r1,q1⟩=>ho pins s1 σ H1 x v Q I1 r1 q1)
def Zm7 {f:Value->Value->Sem Value}{C:Int->Int->Prop}{g:Int->Int->Int}(rule:∀(i j:Int) (t u:Tok) (s:Shared) (Q:Value->Shared->Prop) (E:Value->Shared->Prop),C i j->Q (.int (g i j) s.toks) {s with toks:=s.toks+1}->wpAny (model X.prog X.w) X.A (f (.int i t) (.int j u)) Q E s):
  OpR X f (rI C fun i j=>.int (g i j)):=by
 intro pins s σ H x y v u Q I rx ry h
 obtain⟨i,j,rfl,rfl,hc,q⟩:=h
 obtain⟨t,rfl⟩:=rx
 obtain⟨t',rfl⟩:=ry
 exact rule i j t t' s _ _ hc ⟨.int (g i j),H,I.tok _,⟨_,rfl⟩,q⟩
def Zlj {f:Value->Value->Sem Value}{g:Int->Int->Int}(rule:∀(i j:Int) (t u:Tok) (s:Shared) (Q:Value->Shared->Prop) (E:Value->Shared->Prop),Q (.int (g i j) s.toks) {s with toks:=s.toks+1}->wpAny (model X.prog X.w) X.A (f (.int i t) (.int j u)) Q E s):
  OpR X f (Ze0 fun i j=>.int (g i j)):=by
 intro pins s σ H x y v u Q I rx ry h
 obtain⟨i,j,rfl,rfl,q⟩:=h
 obtain⟨t,rfl⟩:=rx
 obtain⟨t',rfl⟩:=ry
 exact rule i j t t' s _ _ ⟨.int (g i j),H,I.tok _,⟨_,rfl⟩,q⟩
def Ze1 {f:Value->Value->Sem Value}{g:Int->Int->Bool}(rule:∀(i j:Int) (t u:Tok) (s:Shared) (Q:Value->Shared->Prop) (E:Value->Shared->Prop),Q (.bool (g i j)) s->wpAny (model X.prog X.w) X.A (f (.int i t) (.int j u)) Q E s):
  OpR X f (Ze0 fun i j=>.bl (g i j)):=by
 intro pins s σ H x y v u Q I rx ry h
 obtain⟨i,j,rfl,rfl,q⟩:=h
 obtain⟨t,rfl⟩:=rx
 obtain⟨t',rfl⟩:=ry
 exact rule i j t t' s _ _ ⟨.bl (g i j),H,I,rfl,q⟩
def Znt (i j:Int):Prop:=0<=j/\j<=1000000/\i.natAbs<2 ^ 64
def op_add:OpR X (binaryOp .Add) (Ze0 fun i j=>.int (i+j)):=Zlj fun _ _ _ _ _ _ _ q=>add_int q
def Zit:OpR X (binaryOp .Sub) (Ze0 fun i j=>.int (i-j)):=Zlj fun _ _ _ _ _ _ _ q=>sub_int q
def Ze2:OpR X (binaryOp .Mod) (rI (fun _ j=>j≠0) fun i j=>.int (i.fmod j)):=Zm7 fun _ _ _ _ _ _ _ hc q=>mod_int' hc q
def Ziu:OpR X (binaryOp .Pow) (rI Znt fun i j=>.int (i ^ j.toNat)):=Zm7 fun _ _ _ _ _ _ _ hc q=>pow_int_small hc.1 hc.2.1 hc.2.2 q
def Zo3 {f:Value->Sem Value}{g:Int->Int}(rule:∀(i:Int) (t:Tok) (s:Shared) (Q:Value->Shared->Prop) (E:Value->Shared->Prop),Q (.int (g i) s.toks) {s with toks:=s.toks+1}->wpAny (model X.prog X.w) X.A (f (.int i t)) Q E s):
  Zm6 X f (rU fun i=>.int (g i)):=by
 intro pins s σ H x v Q I rx h
 obtain⟨i,rfl,q⟩:=h
 obtain⟨t,rfl⟩:=rx
 exact rule i t s _ _ ⟨.int (g i),H,I.tok _,⟨_,rfl⟩,q⟩
def Zbf:Zm6 X (unaryOp .USub) (rU fun i=>.int (-i)):=Zo3 fun _ _ _ _ _ q=>neg_int q
end
section
variable {X:Cx}{a b c:Expr}{ta tb tc:TE}{pos:Pos}
def Zbg {pins:List (Addr×Obj)}{σ:St}{H:Hp}{s:Shared}{Q:VK}{k k':Bool}(I:Inv X pins σ H s)(q:Q (.bl k) H)(e:k=k'):EP X pins σ Q (.bool k') s:=by
 subst e
 exact⟨.bl k,H,I,rfl,q⟩
def Zlk:OpR X (compareOp .Lt) (Ze0 fun i j=>.bl (decide (i<j))):=Ze1 fun _ _ _ _ _ _ _ q=>lt_int q
def Zll:OpR X (compareOp .LtE) (Ze0 fun i j=>.bl (decide (i<=j))):=Ze1 fun _ _ _ _ _ _ _ q=>le_int q
def Zlm:OpR X (compareOp .Gt) (Ze0 fun i j=>.bl (decide (j<i))):=Ze1 fun _ _ _ _ _ _ _ q=>gt_int q
def Zln:OpR X (compareOp .GtE) (Ze0 fun i j=>.bl (decide (j<=i))):=Ze1 fun _ _ _ _ _ _ _ q=>ge_int q
def Ziv:OpR X (compareOp .Is) (fun x y H Q=>y=.non/\Q (.bl (decide (x=.non))) H):=by
 intro pins s σ H x y v u Q I rx ry h
 obtain⟨rfl,q⟩:=h
 cases ry
 refine is_none_gen (Zbg I q ?_)
 cases x<;>first
  |(cases rx;rfl)
  |(obtain⟨t,rfl⟩:=rx;rfl)
def Ze3:OpR X (compareOp .IsNot) (fun x y H Q=>y=.non/\Q (.bl (!decide (x=.non))) H):=by
 intro pins s σ H x y v u Q I rx ry h
 obtain⟨rfl,q⟩:=h
 cases ry
 refine isnot_none_gen (Zbg I q ?_)
 cases x<;>first
  |(cases rx;rfl)
  |(obtain⟨t,rfl⟩:=rx;rfl)
def OpR.or {f:Value->Value->Sem Value}{r r':R2}(h:OpR X f r)(h':OpR X f r'):OpR X f (fun x y H Q=>r x y H Q\/r' x y H Q):=by
 intro pins s σ H x y v u Q I rx ry q
 rcases q with q|q
 ·exact h pins s σ H x y v u Q I rx ry q
 ·exact h' pins s σ H x y v u Q I rx ry q
def Zx (b:Expr){op:CmpOp}(h:op≠.In:=by decide)(h2:op≠.NotIn:=by decide):behindInMarks op b=false:=by
 have e1:(op==CmpOp.In)=false:=by cases op<;>first|rfl|exact absurd rfl h
 have e2:(op==CmpOp.NotIn)=false:=by cases op<;>first|rfl|exact absurd rfl h2
 cases b<;>simp[behindInMarks,e1,e2]
def Ze4 {op:CmpOp}{r:R2}(ho:OpR X (compareOp op) r)(ha:PE X a ta)(hb:PE X b tb)(hm:behindInMarks op b=false):PE X (.Compare a [op] [b] pos) (Zky r ta tb):=by
 intro pins s σ H Q I h
 exact wpAny_Compare1 (Zis ha hb I h fun v u s2 x y H2 I2 rx ry q=>ho pins s2 σ H2 x y v u Q I2 rx ry q) hm
def Zhk (t:TE):TT:=fun σ H Q=>t σ H fun x H'=>∃k,x=.bl k/\Q k H'
def M4 {op:CmpOp}{r:R2}(ho:OpR X (compareOp op) r)(ha:PE X a ta)(hb:PE X b tb)(hm:behindInMarks op b=false):PT X (.Compare a [op] [b] pos) (Zhk (Zky r ta tb)):=by
 intro pins s σ H Q I h
 refine wpAny_isTrue_Compare1 (Yj (ha pins s σ H _ I h) fun v s1 ⟨x,H1,I1,r1,q1⟩=>Yj (hb pins s1 σ H1 _ I1 q1) fun u s2 ⟨y,H2,I2,r2,q2⟩=>
  Yj (ho pins s2 σ H2 x y v u _ I2 r1 r2 q2) fun c s3 ⟨z,H3,I3,r3,k,e,q3⟩=>?_) hm
 subst e
 cases r3
 exact wpAny_truthy_bool ⟨H3,I3,q3⟩
def Zbh (r r':R2)(ta tb tc:TE):TE:=fun σ H Q=>ta σ H fun x H1=>tb σ H1 fun y H2=>r x y H2 fun z H3=>∃k,z=.bl k /\
 (if k=true then tc σ H3 fun w' H4=>r' y w' H4 Q else Q (.bl false) H3)
def Zbi {op op':CmpOp}{r r':R2}(ho:OpR X (compareOp op) r)(ho':OpR X (compareOp op') r')(ha:PE X a ta)(hb:PE X b tb)(hc:PE X c tc)(hm:lastMarks [op,op'] [b,c]=false:=by with_unfolding_all rfl):PT X (.Compare a [op,op'] [b,c] pos) (Zhk (Zbh r r' ta tb tc)):=by
 intro pins s σ H Q I h
 refine isTrue_chain (Yj (ha pins s σ H _ I h) fun v s1 ⟨x,H1,I1,r1,q1⟩=>test_link (Yj (hb pins s1 σ H1 _ I1 q1) fun u s2 ⟨y,H2,I2,r2,q2⟩=>
  Yj (ho pins s2 σ H2 x y v u _ I2 r1 r2 q2) fun d s3 ⟨z,H3,I3,r3,k,e,q3⟩=>?_)) hm
 subst e
 cases r3
 refine wpAny_truthy_bool ?_
 cases k with
 |false=>
  obtain⟨k',e',q'⟩:=q3
  cases e'
  exact ite_ff ⟨H3,I3,q'⟩
 |true=>
  refine ite_tt (test_last (Yj (hc pins s3 σ H3 _ I3 q3) fun w' s4 ⟨z',H4,I4,r4,q4⟩=>Yj (ho' pins s4 σ H4 y z' u w' _ I4 r2 r4 q4) fun d' s5 ⟨z2,H5,I5,r5,k2,e2,q5⟩=>?_))
  subst e2
  cases r5
  exact wpAny_truthy_bool ⟨H5,I5,q5⟩
def Si:(sizeLine:Nat)<2 ^ 63:=by rw[sizeLine_eq];decide
def D5:OpR X (binaryOp .Add) (fun x y H Q=>∃i j,x=.str i/\y=.str j/\i.length+j.length<=sizeLine/\Q (.str (i++j)) H):=by
 intro pins s σ H x y v u Q I rx ry h
 obtain⟨i,j,rfl,rfl,hz,q⟩:=h
 obtain⟨t,rfl⟩:=rx
 obtain⟨t',rfl⟩:=ry
 exact add_str (fun t' tk=>⟨.str (i++j),H,I.tok _,⟨_,rfl⟩,q⟩) hz
def Us {x:V}{us:List Value}(r:Vals [x] us):∃u,us=[u]/\RelV x u:=by
 cases r with
 |cons r1 r2=>cases r2;exact⟨_,rfl,r1⟩
def Sj {x y:V}{us:List Value}(r:Vals [x,y] us):∃u w',us=[u,w']/\RelV x u/\RelV y w':=by
 cases r with
 |cons r1 r2=>
  cases r2 with
  |cons r3 r4=>cases r4;exact⟨_,_,rfl,r1,r3⟩
def Zbj:CallR X (.builtin "abs") (fun xs H Q=>∃i,xs=[.int i]/\Q (.int (if i<0 then -i else i)) H):=by
 intro pins s σ H xs us Q I r h
 obtain⟨i,rfl,q⟩:=h
 obtain⟨u,rfl,t,rfl⟩:=Us r
 exact call_abs_int fun u tk=>⟨.int (if i<0 then -i else i),H,I.tok _,⟨_,rfl⟩,q⟩
def Oj (hc:X.calm=true):CallR X (.builtin "max") (fun xs H Q=>∃i j,xs=[.int i,.int j]/\Q (.int (if j > i then j else i)) H):=by
 intro pins s σ H xs us Q I r h
 obtain⟨i,j,rfl,q⟩:=h
 obtain⟨u,w',rfl,⟨t,rfl⟩,⟨t',rfl⟩⟩:=Sj r
 refine max_two_ints (I.ok.hd hc) fun h' tk k=>⟨_,H,I.kept k,?_,q⟩
 by_cases hj:j > i
 ·rw[if_pos hj,if_pos hj];exact⟨_,rfl⟩
 ·rw[if_neg hj,if_neg hj];exact⟨_,rfl⟩
def Ol:CallR X (.type "int") (fun xs H Q=>(∃i,xs=[.int i]/\Q (.int i) H)\/∃k,xs=[.bl k]/\Q (.int (if k then 1 else 0)) H):=by
 intro pins s σ H xs us Q I r h
 rcases h with⟨i,rfl,q⟩|⟨k,rfl,q⟩
 ·obtain⟨u,rfl,t,rfl⟩:=Us r
  exact call_int_int ⟨.int i,H,I,⟨_,rfl⟩,q⟩
 ·obtain⟨u,rfl,r1⟩:=Us r
  cases r1
  exact call_int_bool ⟨.int (if k then 1 else 0),H,I.tok _,⟨_,rfl⟩,q⟩
end
structure ObjM (h:Heap) (x dx C:Addr) (mA:Str->Option Value):Prop where
 obj:h.get? x=some (PySem.W.instObj C dx)
 ns:h.Ns1 dx mA
 ne:dx≠x
def Om {h:Heap}{dx:Addr}{mA:Str->Option Value}(n:h.Ns1 dx mA):∃od,h.get? dx=some od/\∀name,PySem.W.lookIn name od=some (mA name):=by
 obtain⟨o,es,ep,ho,hd,hk,_,hm⟩:=n
 refine⟨o,ho,fun name=>?_⟩
 have e:=hm name
 unfold nsFind findBy at e
 rw[<-Array.find?_toList] at e
 unfold PySem.W.lookIn
 rw[hd]
 dsimp only
 split
 ·rename_i y q
  rw[q] at e
  exact congrArg some e
 ·rename_i q
  rw[q] at e
  have a:es.toList.any (·.refKey)=false:=by
   rw[List.any_eq_false]
   intro y hy
   obtain⟨z,t,hkey⟩:=hk y (Array.mem_toList_iff.mp hy)
   simp[DictEntry.refKey,hkey]
  have a':¬es.toList.any (·.refKey)=true:=by rw[a];exact Bool.false_ne_true
  rw[if_neg a']
  exact congrArg some e
def ObjM.look {h:Heap}{x dx C:Addr}{mA:Str->Option Value}(I:ObjM h x dx C mA):∃od,PySem.W.InstAt h x (PySem.W.instObj C dx) C (some od)/\∀name,PySem.W.lookIn name od=some (mA name):=
 let ⟨od,ho,hl⟩:=Om I.ns
 ⟨od,⟨I.obj,rfl,rfl,ho⟩,hl⟩
section
variable {prog:Program}{w:World}{A:Around}{E:Value->Shared->Prop}{s:Shared}{K:PySem.W.Frag}{x dx C f:Addr}{mA:Str->Option Value}{name:Str}{v:Value}
def Ze5 {expr:Bool}{Q:Value->Shared->Prop}(X:K.In s.heap)(I:ObjM s.heap x dx C mA)(hg:PySem.W.plainGet K C name=true)(hh:PySem.W.hasDictIn K C=true)(ha:PySem.W.findIn K (.ref C) name=some none)(hv:mA name=some v)(hv':PySem.W.handedIn v=true)(h:Q v {s with toks:=s.toks+1}):
  wpAny (model prog w) A (getAttr (.ref x) name expr) Q E s:=by
 obtain⟨od,J,hl⟩:=I.look
 exact PySem.W.get_value X J (PySem.W.plainGet_of hg).1 (PySem.W.findObj_own hh ha rfl (by rw[hl,hv])) hv' h
def Zbk {pl:Sem Bool}{Q:Value×List Value->Shared->Prop}(X:K.In s.heap)(I:ObjM s.heap x dx C mA)(hg:PySem.W.plainGet K C name=true)(hf:PySem.W.findIn K (.ref C) name=some (some (.ref f)))(ht:PySem.W.isFn K (.ref f)=true)(hv:mA name=none)(h:Q (.ref f,[.ref x]) s):
  wpAny (model prog w) A (getMethod (.ref x) name pl) Q E s:=by
 obtain⟨od,J,hl⟩:=I.look
 exact PySem.W.method_fn X J (PySem.W.plainGet_of hg).1 (PySem.W.plainGet_of hg).2 hf (beq_iff_eq.mp ht) (by show(PySem.W.lookIn name od).map (·.isSome)=some false;rw[hl,hv];rfl) h
def Ze6 {ns:List Str}{Q:Unit->Shared->Prop}(X:K.In s.heap)(I:ObjM s.heap x dx C mA)
  (hs:PySem.W.findIn K (.ref C) "__setattr__"=some (some (.builtin "object.__setattr__"))) (hp:PySem.W.plainOver K C=true) (ht:PySem.W.takerIn K C name=some none) (hh:PySem.W.hasDictIn K C=true)
  (hw:PySem.Within mA ns) (hsz:ns.length<=sizeLine)
  (h:∀h',ObjM h' x dx C (fun y=>if y=name then some v else mA y)->Heap.SameBut dx s.heap h'->Q () {s with heap:=h',toks:=s.toks+2}):
  wpAny (model prog w) A (setAttr (.ref x) name v) Q E s:=by
 obtain⟨od,J,hl⟩:=I.look
 refine PySem.W.set_plain X J hs (PySem.W.osa_open (s:={s with toks:=s.toks+1}) (r:=none) X J hp ht fun b=>?_)
 obtain⟨cd,hc,hd'⟩:=PySem.W.any_some hh
 have hx:s.heap.get? x=some ⟨.ref C,some dx,.plain,#[]⟩:=I.obj
 refine wpAny_bind (wpAny_pure (wpAny_bind (wpAny_bind (wpAny_loadPart hx (wpAny_bind (PySem.W.Looks.here (s:={s with toks:=s.toks+1}) (PySem.W.looks_clsIn X hc) ?_))))))
 rw[hd']
 refine wpAny_pure (a:=some dx) (wpAny_bind (wpAny_pure (wpAny_bind ?_)))
 refine wpAny_nsSet1 (s:={s with toks:=s.toks+1}) I.ns fun h' hn2 hs2=>?_
 obtain⟨oD,esD,epD,hoD,hdD,hcD⟩:=hn2.count (PySem.Within.cons name v hw)
 refine wpAny_bind (wpAny_lookBehind hoD (by rw[hdD];exact pastItsLine_dict (Nat.le_trans hcD (by rw[List.length_cons];omega))) ?_)
 exact wpAny_pure (h _ ⟨(hs2.2 _ (Ne.symm I.ne)).trans I.obj,hn2,I.ne⟩ hs2)
def Zbl {R:Result->Shared->Prop}{vs:List Value}{kw:List (Str×Value)}(X:K.In s.heap)(hm:PySem.W.makesIn K C=true)
  (hi:PySem.W.findIn K (.ref C) "__init__"=some (some (.ref f))) (hf:PySem.W.typeIn K (.ref f)=some (.type "function"))
  (h:codeAny (model prog w) (A.under (.builtin "type.__call__" ⟨.ref C::vs,kw⟩)) (.call (.ref f) ⟨.ref (s.heap.objs.size+1)::vs,kw⟩) (PySem.W.InitBack (s.heap.objs.size+1) R)
   {s with heap:=(s.heap.push PySem.W.emptyDict).push (PySem.W.instObj C s.heap.objs.size)}):
  codeAny (model prog w) A (.call (.ref C) ⟨vs,kw⟩) R s:=by
 obtain⟨hh,g,d,t,os⟩:=s
 exact PySem.W.make_core (PySem.W.makes_of X hm) (PySem.W.looks_findIn X hi) (fun self=>PySem.W.bind_fn X self hf) (.inl rfl) h
end
def Yi (f:Str)(v:V):List (Str×V)->List (Str×V)
 |[]=>[(f,v)]
 |(g,x)::r=>if g=f then(g,v)::r else(g,x)::Yi f v r
theorem Qr (f g:Str)(v:V):∀fs:List (Str×V),(Yi f v fs).lookup g=if g=f then some v else fs.lookup g
 |[]=>by
  show List.lookup g [(f,v)]=_
  by_cases h:g=f
  ·have hb:(g==f)=true:=beq_iff_eq.mpr h
   simp only[List.lookup,hb,if_pos h]
  ·have hb:(g==f)=false:=beq_eq_false_iff_ne.mpr h
   simp only[List.lookup,hb,if_neg h]
 |(k,x)::r=>by
  have ih:=Qr f g v r
  rw[show Yi f v ((k,x)::r)=(if k=f then(k,v)::r else(k,x)::Yi f v r) from rfl]
  by_cases hk:k=f
  ·rw[if_pos hk]
   by_cases h:g=k
   ·have hb:(g==k)=true:=beq_iff_eq.mpr h
    simp only[List.lookup,hb,if_pos (h.trans hk)]
   ·have hb:(g==k)=false:=beq_eq_false_iff_ne.mpr h
    simp only[List.lookup,hb,if_neg (fun e:g=f=>h (e.trans hk.symm))]
  ·rw[if_neg hk]
   by_cases h:g=k
   ·have hb:(g==k)=true:=beq_iff_eq.mpr h
    simp only[List.lookup,hb,if_neg (fun e:g=f=>hk (h.symm.trans e))]
   ·have hb:(g==k)=false:=beq_eq_false_iff_ne.mpr h
    simp only[List.lookup,hb]
    exact ih
theorem N4 (f:Str)(v:V):∀fs:List (Str×V),f∈(Yi f v fs).map (·.1)/\∀g,g∈fs.map (·.1)->g∈(Yi f v fs).map (·.1)
 |[]=>⟨by simp[Yi],fun g h=>by simp at h⟩
 |(k,x)::r=>by
  obtain⟨i1,i2⟩:=N4 f v r
  rw[show Yi f v ((k,x)::r)=(if k=f then(k,v)::r else(k,x)::Yi f v r) from rfl]
  by_cases hk:k=f
  ·rw[if_pos hk]
   subst hk
   exact⟨by simp,fun g h=>by simpa using h⟩
  ·rw[if_neg hk]
   refine⟨?_,fun g h=>?_⟩
   ·rw[List.map_cons]
    exact List.mem_cons_of_mem _ i1
   ·rw[List.map_cons] at h ⊢
    rcases List.mem_cons.mp h with e|e
    ·exact List.mem_cons.mpr (.inl e)
    ·exact List.mem_cons_of_mem _ (i2 g e)
theorem P6 (f:Str)(v:V):∀fs:List (Str×V),(Yi f v fs).length<=fs.length+1
 |[]=>by simp[Yi]
 |(k,x)::r=>by
  have ih:=P6 f v r
  rw[show Yi f v ((k,x)::r)=(if k=f then(k,v)::r else(k,x)::Yi f v r) from rfl]
  by_cases hk:k=f
  ·rw[if_pos hk,List.length_cons,List.length_cons];omega
  ·rw[if_neg hk,List.length_cons,List.length_cons];omega
def RelO.some_of {v:V}{o:Option Value}(r:RelO (some v) o):∃u,o=some u/\RelV v u:=by
 cases o with
 |none=>exact(show False from r).elim
 |some u=>exact⟨u,rfl,r⟩
def RelO.none_of {o:Option Value}(r:RelO none o):o=none:=by
 cases o with
 |none=>rfl
 |some u=>exact(show False from r).elim
def On {v:V}{u:Value}(r:RelV v u):PySem.W.handedIn u=true:=by
 cases v with
 |non=>cases (show u=Value.none from r);rfl
 |bl b=>cases (show u=Value.bool b from r);rfl
 |int i=>obtain⟨t,e⟩:=(show ∃t,u=Value.int i t from r);cases e;rfl
 |str x=>obtain⟨t,e⟩:=(show ∃t,u=Value.str x t from r);cases e;rfl
 |byt b=>obtain⟨t,e⟩:=(show ∃t,u=Value.bytes b t from r);cases e;rfl
 |flt b=>obtain⟨t,e⟩:=(show ∃t,u=Value.float b t from r);cases e;rfl
 |ref a=>cases (show u=Value.ref a from r);rfl
 |ty n=>cases (show u=Value.type n from r);rfl
section
variable {P:Program}{w:World}{H H':Hp}{h h':Heap}{a C dx:Addr}{fs fs':List (Str×V)}
def M5 (hok:HOk P w H h)(e:H a=some (.ins C dx fs)):∃mA,ObjM h a dx C mA/\(∀f,RelO (fs.lookup f) (mA f))/\PySem.Within mA (fs.map (·.1))/\fs.length<=1000/\H dx=some (.own a):=by
 obtain⟨d,z,ne,ob,mA,n,r,q⟩:=(show ObjOk P w H h a (.ins C dx fs) from hok a _ e)
 exact⟨mA,⟨ob,n,ne⟩,r,q,z,d⟩
end
structure Cls (K:PySem.W.Frag) (C:Addr):Prop where
 pg:PySem.W.plainGet K C Str.empty=true
 hd:PySem.W.hasDictIn K C=true
 po:PySem.W.plainOver K C=true
 sa:PySem.W.findIn K (.ref C) "__setattr__"=some (some (.builtin "object.__setattr__"))
def Cls.get {K:PySem.W.Frag}{C:Addr}(c:Cls K C)(f:Str):PySem.W.plainGet K C f=true:=c.pg
def NoAttr (K:PySem.W.Frag)(C:Addr)(f:Str):Prop:=PySem.W.findIn K (.ref C) f=some none
def NoAttr.taker {K:PySem.W.Frag}{C:Addr}{f:Str}(n:NoAttr K C f):PySem.W.takerIn K C f=some none:=by
 unfold PySem.W.takerIn
 rw[show PySem.W.findIn K (.ref C) f=some none from n]
 rfl
structure Meth (K:PySem.W.Frag) (C:Addr) (m:Str) (f:Addr):Prop where
 at_:PySem.W.findIn K (.ref C) m=some (some (.ref f))
 fn:PySem.W.isFn K (.ref f)=true
 kp:PySem.W.keepIn K (.ref f)=true
section
variable {X:Cx}{pins:List (Addr×Obj)}{σ:St}{H:Hp}{s:Shared}{a C dx:Addr}{fs:List (Str×V)}{f:Str}{v:V}{A:Around}{E:Value->Shared->Prop}
def Sk {b:Bool}{Q:Value->Shared->Prop}(I:Inv X pins σ H s)(e:H a=some (.ins C dx fs))(c:Cls X.K C)(n:NoAttr X.K C f)(l:fs.lookup f=some v)(h:∀u s',Inv X pins σ H s'->RelV v u->Q u s'):wpAny (model X.prog X.w) A (getAttr (.ref a) f b) Q E s:=by
 obtain⟨mA,O,r,_,_,_⟩:=M5 I.hok e
 obtain⟨u,hu,ru⟩:=RelO.some_of (v:=v) (o:=mA f) (by rw[<-l];exact r f)
 exact Ze5 I.kIn O (c.get f) c.hd n hu (On ru) (h u _ (I.tok _) ru)
def Sl {m:Str}{g:Addr}{pl:Sem Bool}{Q:Value×List Value->Shared->Prop}(I:Inv X pins σ H s)(e:H a=some (.ins C dx fs))(c:Cls X.K C)(k:Meth X.K C m g)(l:fs.lookup m=none)(h:Q (.ref g,[.ref a]) s):wpAny (model X.prog X.w) A (getMethod (.ref a) m pl) Q E s:=by
 obtain⟨mA,O,r,_,_,_⟩:=M5 I.hok e
 have hn:mA m=none:=RelO.none_of (by rw[<-l];exact r m)
 exact Zbk I.kIn O (c.get m) k.at_ k.fn hn h
def Sm {y:V}{u:Value}{Q:Unit->Shared->Prop}(I:Inv X pins σ H s)(e:H a=some (.ins C dx fs))(c:Cls X.K C)(n:NoAttr X.K C f)(hl:fs.length<1000)(ry:RelV y u)(h:∀s',Inv X pins σ (upd H a (.ins C dx (Yi f y fs))) s'->Q () s'):wpAny (model X.prog X.w) A (setAttr (.ref a) f u) Q E s:=by
 obtain⟨mA,O,r,wi,_,ho⟩:=M5 I.hok e
 have hz:(fs.map (·.1)).length<=sizeLine:=by rw[List.length_map,sizeLine_eq];omega
 refine Ze6 I.kIn O c.sa c.po n.taker c.hd wi hz fun h' O' sb=>h _ ?_
 have hd:∃o,h'.get? dx=some o:=let ⟨o,_,_,e',_⟩:=O'.ns;⟨o,e'⟩
 refine I.write (x:=a) (e:=dx) (by rw[e];exact True.intro) (.inr ho) (fun b q hb z=>(sb.2 b hb).trans z) hd ?_
 refine⟨by rw[Zm O.ne];exact ho,?_,O.ne,O'.obj,_,O'.ns,fun g=>?_,fun g hg=>?_⟩
 ·have:=P6 f y fs;omega
 ·show RelO ((Yi f y fs).lookup g) (if g=f then some u else mA g)
  rw[Qr]
  by_cases q:g=f
  ·rw[if_pos q,if_pos q];exact ry
  ·rw[if_neg q,if_neg q];exact r g
 ·by_cases q:g=f
  ·rw[q];exact(N4 f y fs).1
  ·refine(N4 f y fs).2 g (wi g fun z=>hg ?_)
   show(if g=f then some u else mA g)=none
   rw[if_neg q];exact z
def Inv.made (I:Inv X pins σ H s):Inv X pins σ (upd (upd H s.heap.objs.size (.own (s.heap.objs.size+1))) (s.heap.objs.size+1) (.ins C s.heap.objs.size []))
  {s with heap:=(s.heap.push PySem.W.emptyDict).push (PySem.W.instObj C s.heap.objs.size)}:=by
 have e1:(s.heap.push PySem.W.emptyDict).get? s.heap.objs.size=some PySem.W.emptyDict:=Heap.get?_push_size s.heap rfl
 have e2:((s.heap.push PySem.W.emptyDict).push (PySem.W.instObj C s.heap.objs.size)).get? (s.heap.objs.size+1)=some (PySem.W.instObj C s.heap.objs.size):=by
  have:=Heap.get?_push_size (s.heap.push PySem.W.emptyDict) (o:=PySem.W.instObj C s.heap.objs.size) rfl
  rwa[Heap.size_push] at this
 have e3:(s.heap.push PySem.W.emptyDict).Ns s.heap.objs.size (fun _=>none):=⟨PySem.W.emptyDict,#[],_,e1,rfl,(fun e he=>absurd he (by simp)),fun _=>rfl⟩
 have I1:=I.laid (a:=s.heap.objs.size) (o:=.own (s.heap.objs.size+1)) (h':=s.heap.push PySem.W.emptyDict) (t':=s.toks) (fun b u q=>Heap.get?_push_of_some _ q) (Nat.le_refl _) ⟨_,e1⟩
 refine I1.laid (a:=s.heap.objs.size+1) (o:=.ins C s.heap.objs.size []) (t':=s.toks) (fun b u q=>Heap.get?_push_of_some _ q) (Nat.le_of_eq (Heap.size_push _ _)) ?_
 have ne:s.heap.objs.size≠s.heap.objs.size+1:=Nat.ne_of_lt (Nat.lt_succ_self _)
 refine⟨by rw[Zm ne,Zo],Nat.zero_le _,ne,e2,fun _=>none,(Heap.Ns1.of_empty e3).at fun o q=>Heap.get?_push_of_some _ q,fun _=>True.intro,fun y hy=>absurd rfl hy⟩
def Ze7 {prog:Program}{w:World}{env:Env}{e:Expr}{f:Str}{pos:Pos}{s:Shared}{Q:Value->Shared->Prop}(hb:attributeBase e f env (eval e env)=eval e env)(h:wpAny (model prog w) A (eval e env) (fun o s₁=>wpAny (model prog w) A (getAttr o f true) Q E s₁) E s):wpAny (model prog w) A (eval (.Attribute e f pos) env) Q E s:=
 Attribute_any_ h (by rw[arm_eval_Attribute,hb])
end
def Znu (K:PySem.W.Frag)(ta:TE)(f:Str):TE:=fun σ H Q=>ta σ H fun x H1=>∃a C dx fs v,x=.ref a/\H1 a=some (.ins C dx fs)/\Cls K C/\NoAttr K C f/\fs.lookup f=some v/\Q v H1
def Znv (K:PySem.W.Frag)(ta tv:TE)(f:Str):TS:=fun D σ H=>tv σ H fun y H1=>ta σ H1 fun x H2=>∃a C dx fs,x=.ref a/\H2 a=some (.ins C dx fs)/\Cls K C/\NoAttr K C f/\fs.length<1000 /\
 D.nx σ (upd H2 a (.ins C dx (Yi f y fs)))
def Zlo (X:Cx)(op:Operator)(rd:V->V->Hp->VK->Prop):Prop:=
 ∀(pins:List (Addr×Obj)) (s:Shared) (σ:St) (H:Hp) (x y:V) (u v:Value) (Q:VK),Inv X pins σ H s->RelV x u->RelV y v->rd x y H Q->wpAny (model X.prog X.w) X.A (inplaceOp op u v) (EP X pins σ Q) X.xe s
def Ze8 (K:PySem.W.Frag)(ta tv:TE)(rd:V->V->Hp->VK->Prop)(f:Str):TS:=fun D σ H=>ta σ H fun x H1=>∃a C dx fs v,x=.ref a/\H1 a=some (.ins C dx fs)/\Cls K C/\NoAttr K C f/\fs.lookup f=some v /\
 tv σ H1 fun y H2=>rd v y H2 fun z H3=>∃dx' fs',H3 a=some (.ins C dx' fs')/\fs'.length<1000/\D.nx σ (upd H3 a (.ins C dx' (Yi f z fs')))
section
variable {X:Cx}{o e value:Expr}{f:Str}{pos pos' tpos:Pos}{ta tv:TE}
def U2 (he:PE X e ta)(hb:attributeBase e f X.env (eval e X.env)=eval e X.env):PE X (.Attribute e f pos) (Znu X.K ta f):=by
 intro pins s σ H Q I h
 refine Ze7 hb (Yj (he pins s σ H _ I h) fun u s1 ⟨x,H1,I1,rx,a,C,dx,fs,v,ex,ea,c,n,l,q⟩=>?_)
 subst ex
 obtain rfl:u=Value.ref a:=rx
 exact Sk I1 ea c n l fun u' s2 I2 ru=>⟨v,H1,I2,ru,q⟩
def M6 (ha:PE X o ta)(hv:PE X value tv)(hs:swapsWith value (some (.Attribute o f pos')) pos.line X.env=pure false):PS X (.Assign [.Attribute o f pos'] value pos) (Znv X.K ta tv f):=by
 intro pins s σ H D I h
 refine plainObj_wpAny_Assign_Attribute (Yj (hv pins s σ H _ I h) fun u s1 ⟨y,H1,I1,ry,q⟩=>Yj (ha pins s1 σ H1 _ I1 q) fun ov s2 ⟨x,H2,I2,rx,a,C,dx,fs,ex,ea,c,n,l,q2⟩=>?_) hs
 subst ex
 obtain rfl:ov=Value.ref a:=rx
 exact Sm I2 ea c n l ry fun s3 I3=>⟨σ,_,I3,q2⟩
def Oo {op:Operator}{rd:V->V->Hp->VK->Prop}(ha:PE X o ta)(hv:PE X value tv)(hop:Zlo X op rd):PS X (.AugAssign (.Attribute o f tpos) op value pos) (Ze8 X.K ta tv rd f):=by
 intro pins s σ H D I h
 refine wpAny_AugAssign_AttributeAny (Yj (ha pins s σ H _ I h) fun ov s1 ⟨x,H1,I1,rx,a,C,dx,fs,v,ex,ea,c,n,l,q⟩=>?_)
 subst ex
 obtain rfl:ov=Value.ref a:=rx
 refine Sk I1 ea c n l fun u s2 I2 ru=>Yj (hv pins s2 σ H1 _ I2 q) fun w3 s3 ⟨y,H2,I3,ry,q3⟩=>Yj (hop pins s3 σ H2 v y u w3 _ I3 ru ry q3) fun w4 s4 ⟨z,H3,I4,rz,dx',fs',ea',l',q4⟩=>?_
 exact Sm I4 ea' c n l' rz fun s5 I5=>⟨σ,_,I5,q4⟩
def Znw:V->V->Hp->VK->Prop:=fun x y H Q=>∃i j,x=.int i/\y=.int j/\Q (.int (i+j)) H
def Ziw:Zlo X .Add Znw:=by
 rintro pins s σ H x y u v Q I rx ry ⟨i,j,rfl,rfl,q⟩
 obtain⟨t,rfl⟩:=(show ∃t,u=Value.int i t from rx)
 obtain⟨t',rfl⟩:=(show ∃t',v=Value.int j t' from ry)
 exact PyProof.Rows.iadd_int ⟨.int (i+j),H,I.tok _,⟨_,rfl⟩,q⟩
end
structure Room (k:Nat) (A:Around):Prop where
 hd:A.handled=none
 dp:A.depth+3*k+5<recursionLimit
 un:A.units+16*k+200<cLine
def Room.mono {j k:Nat}{A:Around}(r:Room k A)(h:j<=k):Room j A:=⟨r.hd,by have:=r.dp;omega,by have:=r.un;omega⟩
theorem Room.deeper {k:Nat}{A:Around}(r:Room (k+1) A)(env:Env):Room k (A.deeper env):=
 ⟨r.hd,by have:=r.dp;show A.depth+1+3*k+5<_;omega,by have:=r.un;show A.units+3+16*k+200<_;omega⟩
def D6 {A:Around}{C:Addr}{us:List Value}{kw:List (Str×Value)}:(A.under (.builtin "type.__call__" ⟨.ref C::us,kw⟩)).depth=A.depth+1:=by
 first|rfl|simp[Around.under,Code.weight,Code.isCreation,Code.isGuard,Code.isCaller,Code.frames,Code.isFrame,guardIds]
def D7 {A:Around}{C:Addr}{us:List Value}{kw:List (Str×Value)}:(A.under (.builtin "type.__call__" ⟨.ref C::us,kw⟩)).units=A.units+1:=by
 first|rfl|simp[Around.under,Code.cUnits,Code.frames,Code.isFrame]
def Room.make {k:Nat}{A:Around}(r:Room (k+1) A)(C:Addr)(us:List Value)(kw:List (Str×Value)):Room k (A.under (.builtin "type.__call__" ⟨.ref C::us,kw⟩)):=
 ⟨r.hd,by have:=r.dp;rw[D6];omega,by have:=r.un;rw[D7];omega⟩
theorem Room.depth {k:Nat}{A:Around}(r:Room k A):A.depth<recursionLimit:=by have:=r.dp;omega
theorem Room.units {k:Nat}{A:Around}(r:Room k A):A.units+64<cLine:=by have:=r.un;omega
def Zix:TA:=fun _ H Q=>Q [] H
def Fu (ta:TE)(tr:TA):TA:=fun σ H Q=>ta σ H fun x H1=>tr σ H1 fun xs H2=>Q (x::xs) H2
section
variable {X:Cx}{e:Expr}{es:List Expr}{te:TE}{t:TA}{pos:Pos}
def Xa:PA X [] Zix:=fun _ _ _ _ H Q I h=>Calls.spliced_nil ⟨[],H,I,.nil,h⟩
def Qh (ha:PE X e te)(hr:PA X es t)(hs:starEach (e::es) X.env=(false,eval e X.env)::starEach es X.env:=by rfl):PA X (e::es) (Fu te t):=by
 intro pos pins s σ H Q I h
 rw[hs]
 show wpAny _ _ (spliced ((false,eval e X.env)::backTo pos (starEach es X.env))) _ _ s
 refine Calls.spliced_cons (Yj (ha pins s σ H _ I h) fun u s1 ⟨x,H1,I1,r1,q1⟩=>?_)
 exact Yj (hr pos pins s1 σ H1 _ I1 q1) fun us s2 ⟨xs,H2,I2,r2,q2⟩=>⟨x::xs,H2,I2,.cons r1 r2,q2⟩
def Znx (t:TA):TE:=fun σ H Q=>t σ H fun xs H1=>xs.length<=sizeLine/\∀p,H1 p=none->Q (.ref p) (upd H1 p (.tup xs))
def Zny (t:TA):TE:=fun σ H Q=>t σ H fun xs H1=>xs.length<=sizeLine/\∀p,H1 p=none->Q (.ref p) (upd H1 p (.lst xs))
def M7 {x1}(h:PA X es t):PE X (.Tuple es x1 pos) (Znx t):=by
 intro pins s σ H Q I hq
 refine wpAny_Tuple_spliced (Yj (h pos pins s σ H _ I hq) fun us s1 ⟨xs,H1,I1,r,z,q⟩=>⟨by rw[<-r.length];exact z,?_⟩)
 have hf:H1 s1.heap.objs.size=none:=I1.hok.fresh (Nat.le_refl _)
 refine⟨.ref s1.heap.objs.size,upd H1 s1.heap.objs.size (.tup xs),I1.laid (t':=s1.toks) (fun b u e=>Heap.get?_push_of_some _ e) (Nat.le_refl _) ?_,rfl,q _ hf⟩
 exact⟨z,us,r,⟨_,Heap.get?_push_size _ rfl,rfl,_,rfl⟩⟩
def D8 (h:PA X es t):PE X (.List es pos) (Zny t):=by
 intro pins s σ H Q I hq
 refine wpAny_List_spliced (Yj (h pos pins s σ H _ I hq) fun us s1 ⟨xs,H1,I1,r,z,q⟩=>⟨by rw[<-r.length];exact z,?_⟩)
 have hf:H1 s1.heap.objs.size=none:=I1.hok.fresh (Nat.le_refl _)
 refine⟨.ref s1.heap.objs.size,upd H1 s1.heap.objs.size (.lst xs),I1.laid (t':=s1.toks) (fun b u e=>Heap.get?_push_of_some _ e) (Nat.le_refl _) ?_,rfl,q _ hf⟩
 exact⟨z,us,0,r,Heap.get?_push_size _ rfl⟩
end
abbrev Sp:=List V->Hp->VK->XK->Prop
abbrev Zeq:=List Env->Hp->Shared->XK->Value->Shared->Prop
structure Env0 (P:Program) (w:World) (K:PySem.W.Frag) (mg:Str->Option Value) (base:Heap) (A:Around) (outer:List Env) (s:Shared) (H:Hp):Prop where
 frames:A.frames=some outer
 mod:Mod K mg base
 bs:∀b o,base.get? b=some o->s.heap.get? b=some o/\H b=none
 bsz:base.objs.size<=s.heap.objs.size
 funs:s.heap.FunFrames base outer
 frf:∀b∈Oe outer,H b=none
 hok:HOk P w H s.heap
 bare:AllBare s.gens
def CE (outer:List Env)(P:Program)(w:World)(H:Hp)(s:Shared)(Q:VK)(u:Value)(s':Shared):Prop:=
 ∃v H',s'.os=s.os/\AllBare s'.gens/\Un (Oe outer) [] H H' s.heap s'.heap/\HOk P w H' s'.heap/\RelV v u/\Q v H'
def CR (CX:Zeq)(outer:List Env)(P:Program)(w:World)(H:Hp)(s:Shared)(Q:VK)(E:XK)(r:Result)(s':Shared):Prop:=
 match r with
 |.ok (.ret u)=>CE outer P w H s Q u s'
 |.ok _=>False
 |.error e=>CX outer H s E e s'
structure FnOk (P:Program) (w:World) (K:PySem.W.Frag) (mg:Str->Option Value) (base:Heap) (CX:Zeq) (k:Nat) (f:Addr) (fd:FuncData) (ps:List Str) (sp:Sp):Prop where
 len:∀vs H Q E,sp vs H Q E->vs.length=ps.length
 run:∀(A:Around) (outer:List Env) (s:Shared) (H:Hp) (args:Args) (us:List Value) (vs:List V) (Q:VK) (E:XK),Room k A->Env0 P w K mg base A outer s H->BindsTo s fd args (ps.zip us)->Vals vs us->sp vs H Q E ->
  codeAny (model P w) A (.call (.ref f) args) (CR CX outer P w H s Q E) s
def Env0.make {P:Program}{w:World}{K:PySem.W.Frag}{mg:Str->Option Value}{base:Heap}{A:Around}{outer:List Env}{s:Shared}{H:Hp}(e:Env0 P w K mg base A outer s H)(C:Addr)(us:List Value)(kw:List (Str×Value)):
  Env0 P w K mg base (A.under (.builtin "type.__call__" ⟨.ref C::us,kw⟩)) outer s H:=⟨by first|exact e.frames|(simpa[Around.under,Code.envs,Code.isFrame,pushEnvs] using e.frames),e.mod,e.bs,e.bsz,e.funs,e.frf,e.hok,e.bare⟩
section
variable {X:Cx}{pins:List (Addr×Obj)}{σ:St}{H:Hp}{s s':Shared}
def Inv.env0 (I:Inv X pins σ H s):Env0 X.prog X.w X.K X.mg X.base X.A X.stack s H:=
 ⟨I.ok.frames,I.ok.mod,I.bs,Nat.le_trans I.ok.bsz I.sz,I.stack,I.stkFree,I.hok,I.bare⟩
def Inv.after {Q:VK}{u:Value}(I:Inv X pins σ H s)(h:CE X.stack X.prog X.w H s Q u s'):EP X pins σ Q u s':=by
 obtain⟨v,H',os,bare,un,hok,r,q⟩:=h
 obtain⟨hh,g,d,t,os'⟩:=s'
 obtain rfl:os'=s.os:=os
 exact⟨v,H',I.call (h':=hh) (g':=g) (d':=d) (t':=t) (ch:=[]) un hok bare (fun b z=>absurd z (by simp)),r,q⟩
end
def Zhl (sp:Sp)(dvs:List V)(E:XK)(t:TA):TE:=fun σ H Q=>t σ H fun vs H1=>sp (vs++dvs) H1 Q E
def Zbm (C:Addr)(m:Str)(sp:Sp)(dvs:List V)(E:XK)(ta:TE)(t:TA):TE:=fun σ H Q=>ta σ H fun x H1=>∃a dx fs,x=.ref a/\H1 a=some (.ins C dx fs)/\fs.lookup m=none /\
 t σ H1 fun vs H2=>sp (x::(vs++dvs)) H2 Q E
def Zhm (C:Addr)(sp:Sp)(dvs:List V)(E:XK)(t:TA):TE:=fun σ H Q=>t σ H fun vs H1=>∀x dx,H1 x=none->H1 dx=none->dx≠x ->
 sp (.ref x::(vs++dvs)) (upd (upd H1 dx (.own x)) x (.ins C dx [])) (fun v H2=>v=.non/\Q (.ref x) H2) E
def Binds (K:PySem.W.Frag)(fd:FuncData)(ps:List Str)(ds:List Value):Prop:=
 ∀(s:Shared) (us:List Value),K.In s.heap->(us++ds).length=ps.length->BindsTo s fd ⟨us,[]⟩ (ps.zip (us++ds))
def Binds.all {K:PySem.W.Frag}{fd:FuncData}{ps:List Str}(h:∀us:List Value,us.length=ps.length->bindArgs fd ⟨us,[]⟩=pure (ps.zip us)):Binds K fd ps []:=fun s us _ hl=>by
 rw[List.append_nil] at hl ⊢
 exact .of_eq (h us hl)
def W4 (CX:Zeq)(X:Cx)(E:XK):Prop:=∀(pins:List (Addr×Obj)) (σ:St) (H:Hp) (s:Shared) (e:Value) (s':Shared),Inv X pins σ H s->CX X.stack H s E e s'->X.xe e s'
section
variable {X:Cx}{CX:Zeq}{k:Nat}{f C:Addr}{fd:FuncData}{ps:List Str}{sp:Sp}{dvs:List V}{ds:List Value}{E:XK}{x m:Str}{p pos apos:Pos}{e o:Expr}{es:List Expr}{ta:TE}{t:TA}
def D9 {pins:List (Addr×Obj)}{σ:St}{H:Hp}{s:Shared}{Q:VK}{us:List Value}{vs:List V}(F:FnOk X.prog X.w X.K X.mg X.base CX k f fd ps sp)(hr:Room k X.A)(hb:Binds X.K fd ps ds)(hd:Vals dvs ds)(hx:W4 CX X E)(I:Inv X pins σ H s)(r:Vals vs us)(h:sp (vs++dvs) H Q E):wpAny (model X.prog X.w) X.A (call (.ref f) us) (EP X pins σ Q) X.xe s:=by
 have r2:Vals (vs++dvs) (us++ds):=r.append hd
 have hl:(us++ds).length=ps.length:=by rw[<-r2.length];exact F.len _ _ _ _ h
 refine wpAny_call (codeAny_mono (F.run X.A X.stack s H ⟨us,[]⟩ (us++ds) (vs++dvs) Q E hr I.env0 (hb s us I.kIn hl) r2 h) fun r s' hq=>?_)
 cases r with
 |error e=>exact hx pins σ H s e s' I hq
 |ok fl=>
  cases fl with
  |ret u=>exact I.after hq
  |next=>exact False.elim hq
  |brk=>exact False.elim hq
  |cont=>exact False.elim hq
def Kd (F:FnOk X.prog X.w X.K X.mg X.base CX k f fd ps sp)(hr:Room k X.A)(hg:Gl X x)(hm:X.mg x=some (.ref f))(hk:PySem.W.keepIn X.K (.ref f)=true)(hb:Binds X.K fd ps ds)(hd:Vals dvs ds)(hx:W4 CX X E)(ha:PA X (e::es) t) (hdb:(x==("__debug__":Str))=false:=by decide) (he:starEach (e::es) X.env=(false,eval e X.env)::starEach es X.env:=by rfl) (hpl:(backTo pos (starEach es X.env)).any (·.1)=false:=by rfl):
  PE X (.Call (.Name x p) (e::es) [] pos) (Zhl sp dvs E t):=by
 intro pins s σ H Q I h
 refine wpAny_Call_Name_kw (M0 I hg hm ?_ hdb)
 refine PySem.W.callWith_K (h₀:=X.base) I.ok.mod.kin hk (Yj (ha pos pins s σ H _ I h) fun us s1 ⟨vs,H1,I1,r,q⟩=>⟨I1.kIn,?_⟩) he hpl
 exact D9 F hr hb hd hx I1 r q
def M8 {pl:Sem Bool}(he:PE X o ta)(c:Cls X.K C)(hm:Meth X.K C m f)(F:FnOk X.prog X.w X.K X.mg X.base CX k f fd ps sp)(hr:Room k X.A)(hb:Binds X.K fd ps ds)(hd:Vals dvs ds)(hx:W4 CX X E)(ha:PA X (e::es) t)(N3:starEach (e::es) X.env=(false,eval e X.env)::starEach es X.env:=by rfl)(hpl:(backTo pos (starEach es X.env)).any (·.1)=false:=by rfl)(ht:eval (.Call (.Attribute o m apos) (e::es) [] pos) X.env=(do
   let ov <-eval o X.env
   standAt apos.atName
   let (f,first) <-holding [ov] (getMethod ov m pl)
   callWith pos f first (backTo pos (starEach (e::es) X.env)) (backToKw pos (keywordEach [] X.env))):=by rfl):
  PE X (.Call (.Attribute o m apos) (e::es) [] pos) (Zbm C m sp dvs E ta t):=by
 intro pins s σ H Q I h
 refine PySem.W.methodCall_KW (pl:=pl) (Yj (he pins s σ H _ I h) fun u s1 ⟨x,H1,I1,rx,a,dx,fs,ex,ea,l,q⟩=>?_) ht
 subst ex
 obtain rfl:u=Value.ref a:=rx
 refine Sl I1 ea c hm l ?_
 refine PySem.W.callWith_K (first:=[.ref a]) (h₀:=X.base) I.ok.mod.kin hm.kp (Yj (ha pos pins s1 σ H1 _ I1 q) fun us s2 ⟨vs,H2,I2,r,q2⟩=>⟨I2.kIn,?_⟩) N3 hpl
 exact D9 (us:=.ref a::us) (vs:=.ref a::vs) F hr hb hd hx I2 (.cons rfl r) q2
def Ax {pl:Sem Bool}(he:PE X o ta)(c:Cls X.K C)(hm:Meth X.K C m f)(F:FnOk X.prog X.w X.K X.mg X.base CX k f fd ps sp)(hr:Room k X.A)(hb:Binds X.K fd ps ds)(hd:Vals dvs ds)(hx:W4 CX X E)(ht:eval (.Call (.Attribute o m apos) [] [] pos) X.env=(do
   let ov <-eval o X.env
   standAt apos.atName
   let (f,first) <-holding [ov] (getMethod ov m pl)
   callWith pos f first (backTo pos (starEach [] X.env)) (backToKw pos (keywordEach [] X.env))):=by rfl):
  PE X (.Call (.Attribute o m apos) [] [] pos) (Zbm C m sp dvs E ta Zix):=by
 intro pins s σ H Q I h
 refine PySem.W.methodCall_KW (pl:=pl) (Yj (he pins s σ H _ I h) fun u s1 ⟨x,H1,I1,rx,a,dx,fs,ex,ea,l,q⟩=>?_) ht
 subst ex
 obtain rfl:u=Value.ref a:=rx
 refine Sl I1 ea c hm l ?_
 exact PySem.W.callWith_K0 (first:=[.ref a]) I1.kIn hm.kp (D9 (us:=[.ref a]) (vs:=[.ref a]) F hr hb hd hx I1 (.cons rfl .nil) q)
structure Mk (K:PySem.W.Frag) (C f:Addr):Prop where
 makes:PySem.W.makesIn K C=true
 init:PySem.W.findIn K (.ref C) "__init__"=some (some (.ref f))
 fn:PySem.W.isFn K (.ref f)=true
 kp:PySem.W.keepIn K (.ref C)=true
def Zbn {pins:List (Addr×Obj)}{σ:St}{H:Hp}{s:Shared}{Q:VK}{us:List Value}{vs:List V}(M:Mk X.K C f)(F:FnOk X.prog X.w X.K X.mg X.base CX k f fd ps sp)(hr:Room (k+1) X.A)(hb:Binds X.K fd ps ds)(hd:Vals dvs ds)(hx:W4 CX X E)(I:Inv X pins σ H s)(r:Vals vs us)(h:∀x dx,H x=none->H dx=none->dx≠x->sp (.ref x::(vs++dvs)) (upd (upd H dx (.own x)) x (.ins C dx [])) (fun v H2=>v=.non/\Q (.ref x) H2) E):
  wpAny (model X.prog X.w) X.A (call (.ref C) us) (EP X pins σ Q) X.xe s:=by
 have hq:=h (s.heap.objs.size+1) s.heap.objs.size (I.hok.fresh (Nat.le_succ _)) (I.hok.fresh (Nat.le_refl _)) (Nat.ne_of_lt (Nat.lt_succ_self _))
 have I2:=Inv.made (C:=C) I
 have r2:Vals (V.ref (s.heap.objs.size+1)::(vs++dvs)) (Value.ref (s.heap.objs.size+1)::(us++ds)):=.cons rfl (r.append hd)
 have hl:(Value.ref (s.heap.objs.size+1)::us++ds).length=ps.length:=by
  have e:=r2.length
  rw[F.len _ _ _ _ hq] at e
  exact e.symm
 refine wpAny_call (Zbl (f:=f) I.kIn M.makes M.init (beq_iff_eq.mp M.fn) (codeAny_mono (F.run _ X.stack _ _ ⟨Value.ref (s.heap.objs.size+1)::us,[]⟩ (Value.ref (s.heap.objs.size+1)::(us++ds)) _ _ E (hr.make C us [])
  (I2.env0.make C us []) (hb _ (Value.ref (s.heap.objs.size+1)::us) I2.kIn hl) r2 hq) fun r s' hq'=>?_))
 cases r with
 |error e=>exact hx pins σ _ _ e s' I2 hq'
 |ok fl=>
  cases fl with
  |ret u=>
   obtain⟨v,H',I3,rv,ev,q3⟩:=I2.after hq'
   subst ev
   exact⟨rv,⟨V.ref (s.heap.objs.size+1),H',I3,rfl,q3⟩⟩
  |next=>exact False.elim hq'
  |brk=>exact False.elim hq'
  |cont=>exact False.elim hq'
def R3 (M:Mk X.K C f)(F:FnOk X.prog X.w X.K X.mg X.base CX k f fd ps sp)(hr:Room (k+1) X.A)(hg:Gl X x)(hm:X.mg x=some (.ref C))(hb:Binds X.K fd ps ds)(hd:Vals dvs ds)(hx:W4 CX X E)(ha:PA X (e::es) t) (hdb:(x==("__debug__":Str))=false:=by decide) (he:starEach (e::es) X.env=(false,eval e X.env)::starEach es X.env:=by rfl) (hpl:(backTo pos (starEach es X.env)).any (·.1)=false:=by rfl):
  PE X (.Call (.Name x p) (e::es) [] pos) (Zhm C sp dvs E t):=by
 intro pins s σ H Q I h
 refine wpAny_Call_Name_kw (M0 I hg hm ?_ hdb)
 refine PySem.W.callWith_K (h₀:=X.base) I.ok.mod.kin M.kp (Yj (ha pos pins s σ H _ I h) fun us s1 ⟨vs,H1,I1,r,q⟩=>⟨I1.kIn,?_⟩) he hpl
 exact Zbn M F hr hb hd hx I1 r q
end
structure FnScope (N P:List Str) (sc:Scope):Prop where
 kind:sc.kind=.function
 co:sc.isCoroutine=false
 gen:sc.isGenerator=false
 nd:N.Nodup
 pre:N.take P.length=P
 par:∀x∈P,sc.names.lookup x=some .local\/sc.names.lookup x=some .cell
 nofree:∀y∈sc.names,y.2≠.free
theorem Lo {kindOf:Str->Option NameKind}{x:Str}:∀{binds:List (Str×Value)}{m:Str->Option Value},(∀v,(x,v) ∉ binds)->bindL kindOf binds m x=m x
 |[],_,_=>rfl
 |(n,v)::r,m,h=>by
  unfold bindL
  rw[Lo fun w hw=>h w (List.mem_cons_of_mem _ hw)]
  split
  ·have:x≠n:=by rintro rfl;exact h v List.mem_cons_self
   simp[this]
  ·rfl
theorem Lp {kindOf:Str->Option NameKind}{x:Str}:∀{binds:List (Str×Value)}{m:Str->Option Value},(∀v,(x,v) ∉ binds)->bindC kindOf binds m x=m x
 |[],_,_=>rfl
 |(n,v)::r,m,h=>by
  unfold bindC
  rw[Lp fun w hw=>h w (List.mem_cons_of_mem _ hw)]
  split
  ·rfl
  ·have:x≠n:=by rintro rfl;exact h v List.mem_cons_self
   simp[this]
theorem Lq {kindOf:Str->Option NameKind}{x:Str}{v:Value}:∀{P:List Str}{vs:List Value}{i:Nat}{m:Str->Option Value},P.Nodup->P[i]?=some x->vs[i]?=some v->kindOf x=some .local ->
  bindL kindOf (P.zip vs) m x=some v
 |[],_,_,_,_,h,_,_=>by simp at h
 |_::_,[],_,_,_,_,h,_=>by simp at h
 |p::P,w::vs,0,m,nd,h1,h2,hk=>by
  simp at h1 h2;subst h1;subst h2
  show bindL kindOf ((p,w)::P.zip vs) m p=_
  unfold bindL
  rw[Lo fun v hv=>(List.nodup_cons.mp nd).1 (List.of_mem_zip hv).1,if_pos hk]
  simp
 |p::P,w::vs,i+1,m,nd,h1,h2,hk=>by
  show bindL kindOf ((p,w)::P.zip vs) m x=_
  unfold bindL
  exact Lq (i:=i) (List.nodup_cons.mp nd).2 (by simpa using h1) (by simpa using h2) hk
theorem Lr {kindOf:Str->Option NameKind}{x:Str}{v:Value}:∀{P:List Str}{vs:List Value}{i:Nat}{m:Str->Option Value},P.Nodup->P[i]?=some x->vs[i]?=some v->kindOf x≠some .local ->
  bindC kindOf (P.zip vs) m x=some v
 |[],_,_,_,_,h,_,_=>by simp at h
 |_::_,[],_,_,_,_,h,_=>by simp at h
 |p::P,w::vs,0,m,nd,h1,h2,hk=>by
  simp at h1 h2;subst h1;subst h2
  show bindC kindOf ((p,w)::P.zip vs) m p=_
  unfold bindC
  rw[Lp fun v hv=>(List.nodup_cons.mp nd).1 (List.of_mem_zip hv).1,if_neg hk]
  simp
 |p::P,w::vs,i+1,m,nd,h1,h2,hk=>by
  show bindC kindOf ((p,w)::P.zip vs) m x=_
  unfold bindC
  exact Lr (i:=i) (List.nodup_cons.mp nd).2 (by simpa using h1) (by simpa using h2) hk
def Xu (N:List Str)(vs:List V):St:=vs.map some++List.replicate (N.length-vs.length) none
def X5 (CX:Zeq)(P:Program)(w:World)(K:PySem.W.Frag)(mg:Str->Option Value)(base:Heap)(N:List Str)(qual:Str)(scope:Scope)(f:Addr)(cd:Value)(A:Around)(outer:List Env)(s:Shared)(H:Hp)(E:XK):Cx where
 prog:=P
 w:=w
 K:=K
 mg:=mg
 base:=base
 A:=A.deeper (envOfC qual scope s.heap.objs.size f cd)
 N:=N
 s₀:=s
 H₀:=H
 env:=envOfC qual scope s.heap.objs.size f cd
 outer:=outer
 stack:=envOfC qual scope s.heap.objs.size f cd::outer
 ex:=[]
 calm:=true
 fn:=fun _=>true
 pn:=[]
 xe:=fun e s'=>wpAny (model P w) (A.deeper (envOfC qual scope s.heap.objs.size f cd)) (leaving (envOfC qual scope s.heap.objs.size f cd) e) (fun _ s''=>CX outer H s E e s'') (fun e' s''=>CX outer H s E e' s'') s'
def Xy {sc:Scope}{n:Nat}{x:Str}(h:sc.names.lookup x=some .cell):∃c,(cellsFrom n sc.names []).lookup x=some c:=by
 have q:=PySem.W.cellsFrom_some sc.names n [] (.inl h)
 exact Option.isSome_iff_exists.mp q
def Op {CX:Zeq}{P:Program}{w:World}{K:PySem.W.Frag}{mg:Str->Option Value}{base:Heap}{N ps:List Str}{qual:Str}{scope:Scope}{f:Addr}{cd:Value}{A:Around}{outer:List Env}{s s1:Shared}{H:Hp}{E:XK}{us:List Value}{vs:List V}(S:FnScope N ps scope)(hd:A.handled=none)(e0:Env0 P w K mg base A outer s H)(hl:vs.length=ps.length)(r:Vals vs us)(x:InCallC s s.heap.objs.size (bindL (envOfC qual scope s.heap.objs.size f cd).kindOf (ps.zip us) fun _=>none) (cellsFrom (s.heap.objs.size+1) scope.names []) (bindC (envOfC qual scope s.heap.objs.size f cd).kindOf (ps.zip us) fun _=>none) s1):
  Inv (X5 CX P w K mg base N qual scope f cd A outer s H E) [] (Xu N vs) H s1:=by
 have hpl:ps.length<=N.length:=by have:=congrArg List.length S.pre;rw[List.length_take] at this;omega
 obtain⟨h1,tk,rfl,hk⟩:=x.done
 have noA:∀b:Addr,b ∉ (X5 CX P w K mg base N qual scope f cd A outer s H E).ex:=fun b z=>absurd (show b∈([]:List Addr) from z) (by simp)
 refine⟨⟨e0.mod,S.kind,rfl,rfl,Nat.le_refl _,fun y z c h1 h2=>?_,fun y hy=>?_,fun y c _ h=>?_,fun _=>hd,Around.frames_deeper e0.frames,.inr ⟨rfl,rfl⟩,fun b z=>absurd z (noA b),e0.bs,e0.bsz,fun b _ _=>noA b,fun b z=>absurd z (noA b),e0.funs,e0.frf⟩,
  rfl,e0.bare,Un.kept hk,⟨_,x.toInCall.ns,fun i y v h1 h2 h3=>?_⟩,fun y c h=>⟨_,x.cell y c h⟩,e0.hok.fresh (Nat.le_refl _),fun y c h=>?_,fun p hp=>absurd (show p∈([]:List (Addr×Obj)) from hp) (by simp),e0.hok.kept hk,?_⟩
 ·exact name_of_addr x.apart (PySem.mem_of_lookup h1) (PySem.mem_of_lookup h2)
 ·have hy:scope.names.lookup y=some .cell\/scope.names.lookup y=some .free:=hy
  rcases hy with hy|hy
  ·exact Xy hy
  ·exact absurd rfl (S.nofree _ (PySem.mem_of_lookup hy))
 ·exact Nat.le_of_lt (x.above y c (PySem.mem_of_lookup h))
 ·have hi:i<vs.length:=by
   unfold Xu at h2
   by_cases hi:i<vs.length
   ·exact hi
   ·rw[List.getElem?_append_right (by simpa using hi)] at h2
    rw[List.getElem?_replicate] at h2
    split at h2<;>cases h2
  have ha:vs[i]?=some v:=by
   unfold Xu at h2
   rw[List.getElem?_append_left (by simpa using hi),List.getElem?_map] at h2
   cases e:vs[i]? with
   |none=>rw[e] at h2;cases h2
   |some a=>rw[e] at h2;cases h2;rfl
  obtain⟨u,hu,rv⟩:=r.get ha
  have hp:ps[i]?=some y:=by
   rw[<-S.pre,List.getElem?_take_of_lt (by omega)];exact h1
  have ndP:ps.Nodup:=by rw[<-S.pre];exact S.nd.sublist (List.take_sublist _ _)
  refine⟨u,rv,?_⟩
  rcases S.par y (List.mem_of_getElem? hp) with k|k
  ·exact .inl ⟨k,Lq ndP hp hu k⟩
  ·obtain⟨c,e⟩:=Xy (n:=s.heap.objs.size+1) k
   refine .inr ⟨.inl k,c,e,?_⟩
   have q:=x.cell y c e
   rw[Lr ndP hp hu (by show scope.names.lookup y≠_;rw[k];decide)] at q
   exact q
 ·exact e0.hok.fresh (Nat.le_of_lt (x.above y c (PySem.mem_of_lookup h)))
 ·unfold Xu
  show _=N.length
  rw[List.length_append,List.length_map,List.length_replicate]
  omega
def Zlp {CX:Zeq}{P:Program}{w:World}{K:PySem.W.Frag}{mg:Str->Option Value}{base:Heap}{k:Nat}{f:Addr}{name qual:Str}{params:Arguments}{body:List Stmt}{scope:Scope}{dV kV doc pm cdv ct oc:Value}{an od:Option Addr}{osl:Array (Option Value)}{N ps:List Str}{sp:Sp}(lk:K.lookup f=some ⟨oc,od,.func (PySem.W.fnOf name qual params body scope dV kV doc pm an cdv ct),osl⟩)(hcd:PySem.W.codeIn K cdv qual=true)(S:FnScope N ps scope)(len:∀vs H Q E,sp vs H Q E->vs.length=ps.length)(hbody:∀(A:Around) (outer:List Env) (s:Shared) (H:Hp) (vs:List V) (Q:VK) (E:XK),Room k (A.deeper (envOfC qual scope s.heap.objs.size f cdv))->sp vs H Q E ->
   ∃t,PSs (X5 CX P w K mg base N qual scope f cdv A outer s H E) body t/\t {nx:=fun _ H'=>Q .non H',rt:=Q} (Xu N vs) H):
  FnOk P w K mg base CX (k+1) f (PySem.W.fnOf name qual params body scope dV kV doc pm an cdv ct) ps sp:=by
 refine⟨len,fun A outer s H args us vs Q E hr e0 hb r hsp=>?_⟩
 have hl:=len _ _ _ _ hsp
 have KX:K.In s.heap:=e0.mod.kin.keeps fun b o e=>(e0.bs b o e).1
 have lim:s.heap.NoLimit:=e0.mod.nolimit.keeps fun b o e=>(e0.bs b o e).1
 have hkind:∀y∈ps.zip us,scope.names.lookup y.1=some .local\/(scope.names.lookup y.1=some .cell/\((cellsFrom (s.heap.objs.size+1) scope.names []).lookup y.1).isSome=true):=fun⟨n,v⟩ hy=>by
  rcases S.par n (List.of_mem_zip hy).1 with q|q
  ·exact .inl q
  ·exact .inr ⟨q,PySem.W.cellsFrom_some _ _ _ (.inl q)⟩
 refine codeAny_call_function hr.depth (KX _ _ lk) rfl S.co S.gen rfl (PySem.W.codeRec_of KX hcd) (hb _ _ _ _ ?_)
 refine wpAny_newFunctionEnv_cells S.kind hkind fun env he s1 x=>?_
 subst he
 refine⟨lim.keeps x.toInCall.keep,codeAny_func ?_⟩
 obtain⟨t,ht,hq⟩:=hbody A outer s H vs Q E (hr.deeper _) hsp
 have I:Inv (X5 CX P w K mg base N qual scope f cdv A outer s H E) [] (Xu N vs) H s1:=Op S hr.hd e0 hl r x
 refine wpAny_mono (ht [] s1 (Xu N vs) H _ I hq) (fun fl s' hs=>?_) fun e s' hs=>hs
 have fin:∀{σ':St}{H':Hp}{v:V}{u:Value},Inv (X5 CX P w K mg base N qual scope f cdv A outer s H E) [] σ' H' s'->RelV v u->Q v H'->CE outer P w H s Q u s':=
  fun {σ' H' v u} J rv q=>⟨v,H',J.os,J.bare,J.base,J.hok,rv,q⟩
 cases fl with
 |ret u=>
  obtain⟨v,σ',H',J,rv,q⟩:=hs
  exact fin J rv q
 |next=>
  obtain⟨σ',H',J,q⟩:=hs
  exact fin (v:=V.non) (u:=Value.none) J rfl q
 |brk=>
  obtain⟨_,_,_,q⟩:=hs
  exact False.elim q
 |cont=>
  obtain⟨_,_,_,q⟩:=hs
  exact False.elim q
section
variable {X:Cx}{x:Str}{p pos:Pos}{e:Expr}{es:List Expr}{t:TA}{id T:String}{r:List V->Hp->VK->Prop}
def Znz (r:List V->Hp->VK->Prop)(t:TA):TE:=fun σ H Q=>t σ H fun vs H1=>r vs H1 Q
def Ay (hc:CallR X (.builtin id) r)(hg:Gl X x)(hm:X.mg x=none)(hv:bootBuiltins x=some (.builtin id))(ha:PA X (e::es) t) (hn:x ≠ "__name__":=by decide) (hdb:(x==("__debug__":Str))=false:=by decide)
  (he:starEach (e::es) X.env=(false,eval e X.env)::starEach es X.env:=by rfl) (hpl:(backTo pos (starEach es X.env)).any (·.1)=false:=by rfl):PE X (.Call (.Name x p) (e::es) [] pos) (Znz r t):=by
 intro pins s σ H Q I h
 refine wpAny_Call_Name_kw (U1 I hg hm hv ?_ hn hdb)
 exact PyProof.Rows.callWith_builtin1 (Yj (ha pos pins s σ H _ I h) fun us s1 ⟨vs,H1,I1,r1,q1⟩=>hc pins s1 σ H1 vs us Q I1 r1 q1) he hpl
def Ls (hc:CallR X (.type T) r)(hg:Gl X x)(hm:X.mg x=none)(hv:bootBuiltins x=some (.type T))(ha:PA X (e::es) t) (hn:x ≠ "__name__":=by decide) (hdb:(x==("__debug__":Str))=false:=by decide)
  (he:starEach (e::es) X.env=(false,eval e X.env)::starEach es X.env:=by rfl) (hpl:(backTo pos (starEach es X.env)).any (·.1)=false:=by rfl):PE X (.Call (.Name x p) (e::es) [] pos) (Znz r t):=by
 intro pins s σ H Q I h
 refine wpAny_Call_Name_kw (U1 I hg hm hv ?_ hn hdb)
 exact PyProof.Rows.callWith_type1 (Yj (ha pos pins s σ H _ I h) fun us s1 ⟨vs,H1,I1,r1,q1⟩=>hc pins s1 σ H1 vs us Q I1 r1 q1) he hpl
end
end L2
namespace HT
open PySem PyProof.Rows
section
variable {prog:Program}{w:World}{A:Around}{E:Value->Shared->Prop}{s:Shared}
def cat_tup {t b:Addr}{vs ws:List Value}{Q:Value->Shared->Prop}(ht:IsTup s.heap t vs.toArray)(hb:IsTup s.heap b ws.toArray)(hv:vs≠[])(h1:ws=[]->Q (.ref t) s) (h2:ws≠[]->Q (.ref s.heap.objs.size) {s with heap:=s.heap.push {cls:=.type "tuple", data:=.seq (vs++ws).toArray}})
  (hsz:vs.length+ws.length<=sizeLine):wpAny (model prog w) A (binaryOp .Add (.ref t) (.ref b)) Q E s:=by
 obtain⟨⟨cls,dd,data,sl⟩,ho,hc,n,hd⟩:=id ht
 obtain⟨⟨cls2,dd2,data2,sl2⟩,ho2,hc2,n2,hd2⟩:=id hb
 simp only at hc hd hc2 hd2
 subst hc hd hc2 hd2
 have e:vs.toArray++ws.toArray=(vs++ws).toArray:=by simp
 by_cases hw:ws=[]
 ·exact concat_meets ⟨_,ho,rfl⟩ ⟨_,ho2,rfl⟩ noFill_tuple_add seq_tuple_add PySem.F.slot_tuple_add PySem.F.entry_tuple_add (PySem.F.args_tuple_add_2 _ _)
   (tuple_addW1 t b vs.toArray ws.toArray n n2 dd dd2 sl sl2 (by simpa using hv) (by simp[hw])) ⟨ho,ho2,h1 hw⟩
 ·refine concat_meets ⟨_,ho,rfl⟩ ⟨_,ho2,rfl⟩ noFill_tuple_add seq_tuple_add PySem.F.slot_tuple_add PySem.F.entry_tuple_add (PySem.F.args_tuple_add_2 _ _)
   (tuple_addW2 t b vs.toArray ws.toArray n n2 dd dd2 sl sl2 (by simpa using hv) (by simpa using hw) (by rw[List.size_toArray,List.size_toArray];exact hsz)) ⟨ho,ho2,?_⟩
  rw[e]
  exact h2 hw
def sIx (n d:Nat):Option Int->Nat
 |none=>d
 |some v=>if v<0 then(v+(n:Int)).toNat else min v.toNat n
def sIx_nat (n d k:Nat):sIx n d (some (k:Int))=min k n:=by
 show(if(k:Int)<0 then((k:Int)+(n:Int)).toNat else min (k:Int).toNat n)=min k n
 rw[if_neg (by omega),Int.toNat_natCast]
def Ziy (n d:Nat)(hd:d<=n)(o:Option Int):sIx n d o<=n:=by
 cases o with
 |none=>exact hd
 |some v=>
  show(if v<0 then(v+(n:Int)).toNat else min v.toNat n)<=n
  by_cases hv:v<0
  ·rw[if_pos hv];omega
  ·rw[if_neg hv];exact Nat.min_le_right _ _
def Fv (v:Int)(n d:Nat):(if v<0 then max (v+(n:Int)) 0 else min v (n:Int))=((sIx n d (some v):Nat):Int):=by
 show(if v<0 then max (v+(n:Int)) 0 else min v (n:Int))=(((if v<0 then(v+(n:Int)).toNat else min v.toNat n):Nat):Int)
 by_cases hv:v<0
 ·simp only[if_pos hv];omega
 ·simp only[if_neg hv];omega
def Ea (lo hi:Option Int)(n:Nat):Builtin.Slice.sliceAdjust lo hi 1 (n:Int)=(((sIx n 0 lo:Nat):Int),((sIx n n hi:Nat):Int)):=by
 have h1:¬((1:Int)<0):=by omega
 unfold Builtin.Slice.sliceAdjust
 simp only[h1,if_false]
 refine Prod.ext ?_ ?_
 ·cases lo with
  |none=>rfl
  |some v=>exact Fv v n 0
 ·cases hi with
  |none=>rfl
  |some v=>exact Fv v n n
def Eb (i j:Nat):Builtin.Slice.slicePlaces (i:Int) (j:Int) 1=j-i:=by
 unfold Builtin.Slice.slicePlaces
 have h1:(1:Int) > 0:=by omega
 simp only[h1,if_true,Int.ediv_one]
 split<;>omega
def Sn {v:Value}{o:Option Int}{Q:Option Int->Shared->Prop}(p:IsPart v o)(h:Q o s):wpAny (model prog w) A (Builtin.Slice.slicePartIndex v) Q E s:=by
 cases p with
 |none=>exact slicePart_none h
 |int i t=>exact slicePart_int h
def N5 {sl:Addr}{vl vu:Value}{lo hi:Option Int}{n:Nat}{Q:Int×Int×Nat->Shared->Prop}(hs:s.heap.IsSliceOf sl vl vu .none)(pl:IsPart vl lo)(pu:IsPart vu hi)(h:Q (((sIx n 0 lo:Nat):Int),1,sIx n n hi-sIx n 0 lo) s):wpAny (model prog w) A (Builtin.Slice.sliceApplied (.ref sl) (pure (n:Int))) Q E s:=by
 obtain⟨os,hos,hcs,hds⟩:=id hs
 unfold Builtin.Slice.sliceApplied Builtin.Slice.sliceFields
 refine wpAny_bind (wpAny_bind (wpAny_field hos hds (x:=vl) rfl (wpAny_bind (wpAny_field hos hds (x:=vu) rfl (wpAny_bind (wpAny_field hos hds (x:=.none) rfl (wpAny_pure ?_)))))))
 refine wpAny_bind (slicePart_none ?_)
 show wpAny _ _ (if((1:Int)==0)=true then _ else _) _ _ s
 rw[if_neg (by decide)]
 refine wpAny_bind (Sn pl (wpAny_bind (Sn pu (wpAny_bind (wpAny_pure ?_)))))
 show wpAny _ _ (match Builtin.Slice.sliceAdjust lo hi 1 (n:Int) with|(lo,hi)=>pure (lo,(1:Int),Builtin.Slice.slicePlaces lo hi 1)) _ _ s
 rw[Ea lo hi n]
 show wpAny _ _ (pure (((sIx n 0 lo:Nat):Int),(1:Int),Builtin.Slice.slicePlaces ((sIx n 0 lo:Nat):Int) ((sIx n n hi:Nat):Int) 1)) _ _ s
 rw[Eb]
 exact wpAny_pure h
def pick_gen (xs:Array Value)(i k:Nat):((List.range k).filterMap fun(m:Nat)=>xs[((i:Int)+(m:Int)*1).toNat]?).toArray=((xs.toList.drop i).take k).toArray:=by
 have e:(fun(m:Nat)=>xs[((i:Int)+(m:Int)*1).toNat]?)=fun m=>xs[i+m]?:=by
  funext m
  have:((i:Int)+(m:Int)*1).toNat=i+m:=by omega
  rw[this]
 rw[e]
 have:=pick_run xs i k
 rw[List.filterMap_map] at this
 have e2:((fun x=>xs[x]?)∘fun x=>i+x)=fun m=>xs[i+m]?:=rfl
 rw[e2] at this
 rw[this]
def getItem_tuple_cut {t sl:Addr}{items:Array Value}{vl vu:Value}{lo hi:Option Int}{Q:Value->Shared->Prop}(ht:IsTup s.heap t items)(hs:s.heap.IsSliceOf sl vl vu .none)(pl:IsPart vl lo)(pu:IsPart vu hi)(hw:¬(sIx items.size 0 lo=0/\sIx items.size items.size hi=items.size))
  (h:Q (.ref s.heap.objs.size) {s with heap:=s.heap.push {cls:=.type "tuple", data:=.seq ((items.toList.drop (sIx items.size 0 lo)).take (sIx items.size items.size hi-sIx items.size 0 lo)).toArray}})
  (hsz:items.size<=sizeLine):wpAny (model prog w) A (getItem (.ref t) (.ref sl)) Q E s:=by
 have htake:sizeOk (.seq ((items.toList.drop (sIx items.size 0 lo)).take (sIx items.size items.size hi-sIx items.size 0 lo)).toArray):=by
  show((items.toList.drop (sIx items.size 0 lo)).take (sIx items.size items.size hi-sIx items.size 0 lo)).toArray.size<=sizeLine
  rw[List.size_toArray,List.length_take,List.length_drop,Array.length_toList]
  omega
 have hj:sIx items.size items.size hi<=items.size:=Ziy _ _ (Nat.le_refl _) hi
 obtain⟨os,hos,hcs,hds⟩:=id hs
 have hTs:s.TypeIs (.ref sl) "slice":=⟨os,hos,hcs⟩
 unfold getItem
 try with_reducible refine wpAny_holding ?_
 first|refine wpAny_bind (wpAny_pure ?_)|skip
 refine wpAny_bind (wpAny_sequenceKey ht.typeIs (by decide) ?_)
 refine wpAny_bind (wpAny_callSpecial?_slot (name:=Str.ofString "__getitem__") ht.typeIs PyProof.Rows.slot_tuple_getitem
  (wpAny_call_entry PyProof.Rows.slot_tuple_getitem ht.typeIs entry_tuple_getitem ?_ (args_tuple_getitem _ _)))
 show wpAny _ _ (Builtin.Tuple.tupleItemsOf (.ref t)>>=_) _ _ s
 refine wpAny_bind (tupleItemsOf_ ht ?_)
 refine wpAny_bind (wpAny_typeOf hTs ?_)
 rw[if_pos (by decide)]
 refine wpAny_bind (N5 hs pl pu ?_)
 have hno:¬((((sIx items.size 0 lo:Nat):Int)==0&&(1:Int)==1&&(sIx items.size items.size hi-sIx items.size 0 lo)==items.size)=true):=by
  intro q
  rw[Bool.and_eq_true,Bool.and_eq_true] at q
  have q1:((sIx items.size 0 lo:Nat):Int)=0:=eq_of_beq q.1.1
  have q2:sIx items.size items.size hi-sIx items.size 0 lo=items.size:=eq_of_beq q.2
  exact hw ⟨by omega,by omega⟩
 show wpAny _ _ (if(((sIx items.size 0 lo:Nat):Int)==0&&(1:Int)==1&&(sIx items.size items.size hi-sIx items.size 0 lo)==items.size)=true then _ else _) _ _ s
 rw[if_neg hno,pick_gen]
 first
  |exact wpAny_bind (m:=Builtin.Tuple.tupleExact _) (wpAny_newObj_type (wpAny_pure ⟨_,rfl,wpAny_pure h⟩) htake)
  |exact wpAny_bind (m:=Builtin.Tuple.tupleExact _) (wpAny_newObj_type (wpAny_bind (wpAny_pure (wpAny_pure ⟨_,rfl,wpAny_pure h⟩))) htake)
  |exact wpAny_bind (wpAny_bind (m:=Builtin.Tuple.tupleExact _) (wpAny_newObj_type (wpAny_pure (wpAny_pure ⟨_,rfl,wpAny_pure h⟩)) htake))
  |exact wpAny_bind (wpAny_bind (m:=Builtin.Tuple.tupleExact _) (wpAny_newObj_type (wpAny_pure ⟨_,rfl,wpAny_pure h⟩) htake))
end
end HT
namespace L2
open PySem PySem.Spec PyProof.Rows
abbrev TO:=St->Hp->(Option Int->Hp->Prop)->Prop
def PO (X:Cx)(e:Option Expr)(t:TO):Prop:=
 ∀(pins:List (Addr×Obj)) (s:Shared) (σ:St) (H:Hp) (Q:Option Int->Hp->Prop),Inv X pins σ H s->t σ H Q ->
  wpAny (model X.prog X.w) X.A (evalPart e X.env) (fun u s'=>∃o H',Inv X pins σ H' s'/\IsPart u o/\Q o H') X.xe s
def Ze9:TO:=fun _ H Q=>Q none H
def Zlq (t:TE):TO:=fun σ H Q=>t σ H fun x H1=>∃i,x=.int i/\Q (some i) H1
def Ec {ns:List Int}:∀{us:List Value},Vals (ns.map V.int) us->IntsAre us ns:=by
 induction ns with
 |nil=>intro us r;rw[List.map_nil] at r;cases r;exact .nil
 |cons n ns ih=>
  intro us r
  rw[List.map_cons] at r
  cases r with
  |cons r1 r2=>
   obtain⟨t,e⟩:=r1
   subst e
   exact .cons n t (ih r2)
section
variable {X:Cx}{e:Expr}{te:TE}{lo hi:Option Expr}{tl th:TO}{pos p2:Pos}
def Zfa:PO X none Ze9:=by
 intro pins s σ H Q I h
 rw[evalPart_none]
 exact wpAny_pure ⟨none,H,I,.none,h⟩
def Zfb (h:PE X e te):PO X (some e) (Zlq te):=by
 intro pins s σ H Q I hw
 rw[evalPart_some]
 refine Yj (h pins s σ H _ I hw) fun u s1 ⟨x,H1,I1,r1,q1⟩=>?_
 obtain⟨i,rfl,q⟩:=q1
 obtain⟨t,rfl⟩:=r1
 exact⟨some i,H1,I1,.int i t,q⟩
def SlR (X:Cx)(r:V->Option Int->Option Int->Hp->VK->Prop):Prop:=
 ∀(pins:List (Addr×Obj)) (s:Shared) (σ:St) (H:Hp) (x:V) (v vl vu:Value) (lo hi:Option Int) (sl:Addr) (Q:VK),Inv X pins σ H s->RelV x v->s.heap.IsSliceOf sl vl vu .none->IsPart vl lo->IsPart vu hi->r x lo hi H Q ->
  ∃T id,typeLookup (.type T) "__getitem__"=pure (some (.builtin id))/\s.TypeIs v T/\wpAny (model X.prog X.w) X.A (getItem v (.ref sl)) (EP X pins σ Q) X.xe s
def SlR.or {r r':V->Option Int->Option Int->Hp->VK->Prop}(h:SlR X r)(h':SlR X r'):SlR X (fun x lo hi H Q=>r x lo hi H Q\/r' x lo hi H Q):=by
 intro pins s σ H x v vl vu lo hi sl Q I rx hs pl pu q
 rcases q with q|q
 ·exact h pins s σ H x v vl vu lo hi sl Q I rx hs pl pu q
 ·exact h' pins s σ H x v vl vu lo hi sl Q I rx hs pl pu q
def Zo4 (r:V->Option Int->Option Int->Hp->VK->Prop)(te:TE)(tl th:TO):TE:=fun σ H Q=>te σ H fun x H1=>tl σ H1 fun l H2=>th σ H2 fun u H3=>r x l u H3 Q
def Zbo {r:V->Option Int->Option Int->Hp->VK->Prop}(hr:SlR X r)(he:PE X e te)(hl:PO X lo tl)(hu:PO X hi th):PE X (.Subscript e (.Slice lo hi none p2) pos) (Zo4 r te tl th):=by
 intro pins s σ H Q I h
 refine Subscript_ (Yj (he pins s σ H _ I h) fun v s1 ⟨x,H1,I1,r1,q1⟩=>?_)
 refine wpAny_Slice (Yj (hl pins s1 σ H1 _ I1 q1) fun vl s2 ⟨l,H2,I2,pl,q2⟩=>Yj (hu pins s2 σ H2 _ I2 q2) fun vu s3 ⟨u,H3,I3,pu,q3⟩=>?_)
 rw[evalPart_none]
 refine wpAny_pure ?_
 have I4:Inv X pins σ H3 {s3 with heap:=s3.heap.push {cls:=.type "slice", data:=.fields #[vl,vu,.none]}}:=I3.kept (t':=s3.toks) fun b ob q=>Heap.get?_push_of_some _ q
 obtain⟨T,id,hT,ht,hg⟩:=hr pins {s3 with heap:=s3.heap.push {cls:=.type "slice", data:=.fields #[vl,vu,.none]}} σ H3 x v vl vu l u s3.heap.objs.size Q I4 r1 (Heap.IsSliceOf.new ..) pl pu q3
 show wpAny (model X.prog X.w) X.A (subscriptTail e (.Slice lo hi none p2) v (.ref s3.heap.objs.size)) (EP X pins σ Q) X.xe {s3 with heap:=s3.heap.push {cls:=.type "slice", data:=.fields #[vl,vu,.none]}}
 exact tail_any (ops:=[.ref s3.heap.objs.size,v]) ht hT hg (by with_unfolding_all rfl)
def Az (xs:List V)(lo hi:Option Int):List V:=(xs.drop (HT.sIx xs.length 0 lo)).take (HT.sIx xs.length xs.length hi-HT.sIx xs.length 0 lo)
def P7 (xs:List V)(lo hi:Option Int):(Az xs lo hi).length<=xs.length:=by
 unfold Az
 rw[List.length_take,List.length_drop]
 omega
def Zn0 (K:PySem.W.Frag):V->Option Int->Option Int->Hp->VK->Prop:=fun x lo hi H Q=>∃a xs,x=.ref a/\SqT K H a xs /\
 ¬(HT.sIx xs.length 0 lo=0/\HT.sIx xs.length xs.length hi=xs.length)/\∀p,H p=none->Q (.ref p) (upd H p (.tup (Az xs lo hi)))
def Ziz:SlR X (Zn0 X.K):=by
 intro pins s σ H x v vl vu lo hi sl Q I rx hs pl pu h
 obtain⟨a,xs,rfl,hx,hw,q⟩:=h
 cases rx
 obtain⟨its,r,ht,hz⟩:=I.tuple hx
 have hlen:its.toArray.size=xs.length:=by rw[List.size_toArray];exact r.length.symm
 refine⟨"tuple", _,PyProof.Rows.slot_tuple_getitem.lookup,ht.typeIs,?_⟩
 refine HT.getItem_tuple_cut ht hs pl pu (by rw[hlen];exact hw) ?_ (by rw[hlen];exact hz)
 rw[hlen]
 refine⟨.ref s.heap.objs.size,_,I.laid (t':=s.toks) (o:=.tup (Az xs lo hi)) (fun b ob q=>Heap.get?_push_of_some _ q) (Nat.le_refl _) ?_,rfl,q _ (I.hok.fresh (Nat.le_refl _))⟩
 exact⟨Nat.le_trans (P7 xs lo hi) hz,_,(r.drop (HT.sIx xs.length 0 lo)).take (HT.sIx xs.length xs.length hi-HT.sIx xs.length 0 lo),IsTup.new _ _⟩
def Zlr (K:PySem.W.Frag):R2:=fun x y H Q=>∃a b xs ys,x=.ref a/\y=.ref b/\SqT K H a xs/\SqT K H b ys/\xs≠[]/\xs.length+ys.length<=sizeLine /\
 (ys=[]->Q (.ref a) H)/\(ys≠[]->∀p,H p=none->Q (.ref p) (upd H p (.tup (xs++ys))))
def Vals.nil_iff {xs:List V}{us:List Value}(r:Vals xs us):us=[]↔xs=[]:=by
 cases r with
 |nil=>simp
 |cons _ _=>simp
def op_catT:OpR X (binaryOp .Add) (Zlr X.K):=by
 intro pins s σ H x y v u Q I rx ry h
 obtain⟨a,b,xs,ys,rfl,rfl,ha,hb,hx,hz,q1,q2⟩:=h
 cases rx
 cases ry
 obtain⟨its,r1,p1,_⟩:=I.tuple ha
 obtain⟨its2,r2,p2,_⟩:=I.tuple hb
 refine HT.cat_tup p1 p2 (fun z=>hx (r1.nil_iff.mp z)) (fun z=>⟨.ref a,H,I,rfl,q1 (r2.nil_iff.mp z)⟩) (fun z=>?_) (by rw[<-r1.length,<-r2.length];exact hz)
 refine⟨.ref s.heap.objs.size,_,I.laid (t':=s.toks) (o:=.tup (xs++ys)) (fun b ob q=>Heap.get?_push_of_some _ q) (Nat.le_refl _) ?_,rfl,q2 (fun w=>z (r2.nil_iff.mpr w)) _ (I.hok.fresh (Nat.le_refl _))⟩
 exact⟨by rw[List.length_append];exact hz,_,r1.append r2,IsTup.new _ _⟩
end
def Zi0 (n:Nat)(i:Int):Option Nat:=if 0<=i then(if i<n then some i.toNat else none) else if -(n:Int)<=i then some (i+n).toNat else none
def N2 {α:Type}(xs:List α)(i:Int):Option α:=(Zi0 xs.length i).bind fun j=>xs[j]?
def Zfc {n:Nat}{i:Int}{j:Nat}(h:Zi0 n i=some j):seqIndex? i n=some j/\j<n/\-(n:Int)<=i/\i<n:=by
 unfold Zi0 at h
 by_cases h0:0<=i
 ·rw[if_pos h0] at h
  by_cases h1:i<n
  ·rw[if_pos h1] at h
   have e:i.toNat=j:=Option.some.inj h
   exact⟨by rw[seqIndex_of h0 h1,e],by omega,by omega,h1⟩
  ·rw[if_neg h1] at h;cases h
 ·rw[if_neg h0] at h
  by_cases h1:-(n:Int)<=i
  ·rw[if_pos h1] at h
   have e:(i+n).toNat=j:=Option.some.inj h
   exact⟨by rw[seqIndex_neg (by omega) h1,e],by omega,h1,by omega⟩
  ·rw[if_neg h1] at h;cases h
def M9 {α:Type}{xs:List α}{i:Int}{v:α}(h:N2 xs i=some v):∃j,seqIndex? i xs.length=some j/\xs[j]?=some v/\j<xs.length/\-(xs.length:Int)<=i/\i<xs.length:=by
 unfold N2 at h
 cases e:Zi0 xs.length i with
 |none=>rw[e] at h;cases h
 |some j=>
  rw[e] at h
  obtain⟨h1,h2,h3,h4⟩:=Zfc e
  exact⟨j,h1,h,h2,h3,h4⟩
def Ke {α:Type}{xs:List α}{j:Nat}{v:α}(h:xs[j]?=some v):N2 xs (j:Int)=some v:=by
 have hj:j<xs.length:=(List.getElem?_eq_some_iff.mp h).1
 have e:Zi0 xs.length (j:Int)=some j:=by
  unfold Zi0
  rw[if_pos (by omega),if_pos (by omega)];simp
 unfold N2;rw[e];exact h
def Fw (b:Expr):Prop:=∀o i,subscripted b false o i=operate [o,i] (getItem o i)
def IxR (X:Cx)(r:R2):Prop:=
 ∀(value slice:Expr) (pins:List (Addr×Obj)) (s:Shared) (σ:St) (H:Hp) (x y:V) (v u:Value) (Q:VK),Inv X pins σ H s->RelV x v->RelV y u->r x y H Q ->
  subscripted slice false v u=operate [v,u] (getItem v u)->wpAny (model X.prog X.w) X.A (subscriptTail value slice v u) (EP X pins σ Q) X.xe s
def Zos (X:Cx)(id:String)(r:V->List V->Hp->VK->Prop):Prop:=
 ∀(pins:List (Addr×Obj)) (s:Shared) (σ:St) (H:Hp) (x:V) (xs:List V) (v:Value) (us:List Value) (Q:VK),Inv X pins σ H s->RelV x v->Vals xs us->r x xs H Q ->
  wpAny (model X.prog X.w) X.A (call (.builtin id) (v::us)) (EP X pins σ Q) X.xe s
section
variable {X:Cx}{a b:Expr}{ta tb:TE}{pos:Pos}
def IxR.or {r r':R2}(h:IxR X r)(h':IxR X r'):IxR X (fun x y H Q=>r x y H Q\/r' x y H Q):=by
 intro value slice pins s σ H x y v u Q I rx ry q hs
 rcases q with q|q
 ·exact h value slice pins s σ H x y v u Q I rx ry q hs
 ·exact h' value slice pins s σ H x y v u Q I rx ry q hs
def Zls {r:R2}(hr:IxR X r)(ha:PE X a ta)(hb:PE X b tb)(hs:Fw b):PE X (.Subscript a b pos) (Zky r ta tb):=by
 intro pins s σ H Q I h
 exact Subscript_ (Zis ha hb I h fun v u s2 x y H2 I2 rx ry q=>hr a b pins s2 σ H2 x y v u Q I2 rx ry q (hs _ _))
def Zlt (K:PySem.W.Frag):R2:=fun x y H Q=>∃p xs i v,x=.ref p/\y=.int i/\SqL K H p xs/\N2 xs i=some v/\Q v H
def Zlu (K:PySem.W.Frag):R2:=fun x y H Q=>∃p xs i v,x=.ref p/\y=.int i/\SqT K H p xs/\N2 xs i=some v/\Q v H
def Zlv:R2:=fun x y H Q=>∃z i c,x=.str z/\y=.int i/\z.length<=sizeLine/\N2 z.cps.toList i=some c/\Q (.str ⟨#[c]⟩) H
def ix_list:IxR X (Zlt X.K):=by
 intro value slice pins s σ H x y v u Q I rx ry h hs
 obtain⟨p,xs,i,z,rfl,rfl,hq,he,q⟩:=h
 cases rx
 obtain⟨t,rfl⟩:=ry
 obtain⟨its,r,pl,hz⟩:=I.list hq
 obtain⟨j,h1,h2,h3,h4,h5⟩:=M9 he
 obtain⟨w,ew,rw'⟩:=r.get h2
 have hl:=r.length
 have hn:=Si
 have fin:EP X pins σ Q w s:=⟨z,H,I,rw',q⟩
 by_cases h0:0<=i
 ·have hj:i.toNat=j:=by
   rw[seqIndex_of h0 h5] at h1
   exact Option.some.inj h1
  exact item_listR pl.isList h0 (by omega) (by rw[hj];simpa using ew) fin hs
 ·have hj:(i+(its.toArray.size:Int)).toNat=j:=by
   rw[seqIndex_neg (by omega) h4] at h1
   rw[List.size_toArray,<-hl]
   exact Option.some.inj h1
  exact subscriptTail_builtinR (x:=w) pl.isList.typeIs slot_list_getitem.lookup
   (wpAny_getItem_list_neg (Q:=fun r s'=>r=w/\EP X pins σ Q r s') pl.isList (by omega) (by rw[List.size_toArray]<;>omega) (by omega) (by rw[hj];simpa using ew) ⟨rfl,fin⟩) hs
def ix_tup:IxR X (Zlu X.K):=by
 intro value slice pins s σ H x y v u Q I rx ry h hs
 obtain⟨p,xs,i,z,rfl,rfl,hq,he,q⟩:=h
 cases rx
 obtain⟨t,rfl⟩:=ry
 obtain⟨its,r,pl,hz⟩:=I.tuple hq
 obtain⟨j,h1,h2,h3,h4,h5⟩:=M9 he
 obtain⟨w,ew,rw'⟩:=r.get h2
 have hl:=r.length
 have hn:=Si
 have fin:EP X pins σ Q w s:=⟨z,H,I,rw',q⟩
 exact subscriptTail_builtinR (x:=w) pl.typeIs slot_tuple_getitem.lookup
  (getItem_tuple (j:=j) (Q:=fun r s'=>r=w/\EP X pins σ Q r s') pl (by omega) (by omega) (by rw[List.size_toArray,<-hl];exact h1) (by simpa using ew) ⟨rfl,fin⟩) hs
def Zi1:IxR X Zlv:=by
 intro value slice pins s σ H x y v u Q I rx ry h hs
 obtain⟨z,i,c,rfl,rfl,hz,he,q⟩:=h
 obtain⟨t,rfl⟩:=rx
 obtain⟨t',rfl⟩:=ry
 obtain⟨j,h1,h2,h3,h4,h5⟩:=M9 he
 have hl:z.cps.toList.length=z.length:=by simp[Str.length]
 rw[hl] at h1 h4 h5
 have hn:=Si
 exact tail_any (typeIs_str s z t) slot_str_getitem.lookup (getItem_str (c:=c) (by
  have e1:decide (i < -(2 ^ 63:Int))=false:=decide_eq_false (by omega)
  have e2:decide (i ≥ 2 ^ 63)=false:=decide_eq_false (by omega)
  rw[e1,e2,Bool.or_false]) (by rw[h1];simpa using h2) ⟨.str ⟨#[c]⟩,H,I.tok _,⟨_,rfl⟩,q⟩) hs
def Zo5 (K:PySem.W.Frag):R2:=fun x y H Q=>Zlt K x y H Q\/Zlu K x y H Q\/Zlv x y H Q
def Zi2:IxR X (Zo5 X.K):=ix_list.or (ix_tup.or Zi1)
def Ba (lo hi:Option Int)(n:Nat):(sliceBounds lo hi none n).1=((HT.sIx n 0 lo:Nat):Int)/\(sliceBounds lo hi none n).2.1=((HT.sIx n n hi:Nat):Int)/\(sliceBounds lo hi none n).2.2=1:=by
 refine⟨?_,?_,rfl⟩
 ·cases lo with
  |none=>simp[sliceBounds,HT.sIx]
  |some i=>
   simp only[sliceBounds,HT.sIx,Option.getD_none,show(1:Int) > 0 by decide,if_true]
   by_cases h:i<0
   ·simp only[h,if_true]<;>omega
   ·simp only[h,if_false]<;>omega
 ·cases hi with
  |none=>simp[sliceBounds,HT.sIx]
  |some i=>
   simp only[sliceBounds,HT.sIx,Option.getD_none,show(1:Int) > 0 by decide,if_true]
   by_cases h:i<0
   ·simp only[h,if_true]<;>omega
   ·simp only[h,if_false]<;>omega
def T5 (its:List Value)(lo hi:Option Int):slicePick its.toArray lo hi none=((its.drop (HT.sIx its.length 0 lo)).take (HT.sIx its.length its.length hi-HT.sIx its.length 0 lo)).toArray:=by
 obtain⟨h1,h2,h3⟩:=Ba lo hi its.toArray.size
 unfold slicePick
 rw[h1,h2,h3]
 simp only[sliceRange_one,pick_run,List.size_toArray]<;>rfl
def Zn1 (K:PySem.W.Frag):V->Option Int->Option Int->Hp->VK->Prop:=fun x lo hi H Q=>∃a xs,x=.ref a/\SqL K H a xs/\∀p,H p=none->Q (.ref p) (upd H p (.lst (Az xs lo hi)))
def sl_list:SlR X (Zn1 X.K):=by
 intro pins s σ H x v vl vu lo hi sl Q I rx hs pl pu h
 obtain⟨a,xs,rfl,hx,q⟩:=h
 cases rx
 obtain⟨its,r,ht,hz⟩:=I.list hx
 have hlen:=r.length
 refine⟨"list", _,slot_list_getitem.lookup,ht.isList.typeIs,?_⟩
 refine wpAny_getItem_list_slice ht.isList hs pl pu .none (by simp) ?_ (by rw[List.size_toArray]<;>omega)
 rw[T5,<-hlen]
 refine⟨.ref s.heap.objs.size,_,I.laid (t':=s.toks) (o:=.lst (Az xs lo hi)) (fun b ob q=>Heap.get?_push_of_some _ q) (Nat.le_refl _) ?_,rfl,q _ (I.hok.fresh (Nat.le_refl _))⟩
 exact⟨Nat.le_trans (P7 xs lo hi) hz,_,0,(r.drop (HT.sIx xs.length 0 lo)).take (HT.sIx xs.length xs.length hi-HT.sIx xs.length 0 lo),Heap.get?_push_size _ rfl⟩
def Zbp:V->Bool
 |.non=>true
 |.bl _=>true
 |.int _=>true
 |.str _=>true
 |_=>false
def call_len_seq:CallR X (.builtin "len") (fun xs H Q=>∃p ys,xs=[.ref p]/\(SqL X.K H p ys\/SqT X.K H p ys)/\Q (.int ys.length) H):=by
 intro pins s σ H xs us Q I r h
 obtain⟨p,ys,rfl,hq,q⟩:=h
 obtain⟨u,rfl,rx⟩:=Us r
 cases rx
 have hn:=Si
 rcases hq with hq|hq
 ·obtain⟨its,r',pl,hz⟩:=I.list hq
  have hlen:=r'.length
  exact Calls.call_len_list pl.isList (by simp only[List.size_toArray]<;>omega) ⟨.int ys.length,H,I.tok _,⟨s.toks+1,by rw[List.size_toArray,hlen]⟩,q⟩
 ·obtain⟨its,r',pl,hz⟩:=I.tuple hq
  have hlen:=r'.length
  exact len_tuple pl (by simp only[List.size_toArray]<;>omega) ⟨.int ys.length,H,I.tok _,⟨s.toks+1,by rw[List.size_toArray,hlen]⟩,q⟩
def Bb:CallR X (.builtin "len") (fun xs H Q=>∃z,xs=[.str z]/\z.length<=sizeLine/\Q (.int z.length) H):=by
 intro pins s σ H xs us Q I r h
 obtain⟨z,rfl,hz,q⟩:=h
 obtain⟨u,rfl,t,rfl⟩:=Us r
 have hn:=Si
 exact len_str (by omega) ⟨.int z.length,H,I.tok _,⟨_,rfl⟩,q⟩
def CallR.or {f:Value}{r r':List V->Hp->VK->Prop}(h:CallR X f r)(h':CallR X f r'):CallR X f (fun xs H Q=>r xs H Q\/r' xs H Q):=by
 intro pins s σ H xs us Q I rs q
 rcases q with q|q
 ·exact h pins s σ H xs us Q I rs q
 ·exact h' pins s σ H xs us Q I rs q
def Go:CallR X (.type "list") (fun xs H Q=>∃p ys,xs=[.ref p]/\(SqL X.K H p ys\/SqT X.K H p ys)/\∀l,H l=none->Q (.ref l) (upd H l (.lst ys))):=by
 intro pins s σ H xs us Q I r h
 obtain⟨p,ys,rfl,hq,q⟩:=h
 obtain⟨u,rfl,rx⟩:=Us r
 cases rx
 have fin:∀(its:List Value),Vals ys its->ys.length<=sizeLine->∀(h':Heap) (c':Nat),(∀b o',s.heap.get? b=some o'->h'.get? b=some o') ->
   h'.get? s.heap.objs.size=some {cls:=.type "list", dict:=none,data:=.seq its.toArray c',slots:=#[]}->EP X pins σ Q (.ref s.heap.objs.size) {s with heap:=h'}:=fun its r' hz h' c' kp e=>
  ⟨.ref s.heap.objs.size,_,I.laid (t':=s.toks) kp (Nat.le_refl _) (show ObjOk X.prog X.w _ h' _ (.lst ys) from⟨hz,its,c',r',e⟩),rfl,q _ (I.hok.fresh (Nat.le_refl _))⟩
 rcases hq with hq|hq
 ·obtain⟨its,r',pl,hz⟩:=I.list hq
  have hlen:=r'.length
  obtain⟨o,ho,hc,n,hd⟩:=pl.isList
  exact call_list_seq p (.inl rfl) ho hc hd (fun h' c' kp e=>fin its r' hz h' c' kp e) (by simp only[List.size_toArray]<;>omega)
 ·obtain⟨its,r',pl,hz⟩:=I.tuple hq
  have hlen:=r'.length
  obtain⟨o,ho,hc,n,hd⟩:=pl
  exact call_list_seq p (.inr rfl) ho hc hd (fun h' c' kp e=>fin its r' hz h' c' kp e) (by simp only[List.size_toArray]<;>omega)
def T6:CallR X (.type "tuple") (fun xs H Q=>∃p ys,xs=[.ref p]/\((SqL X.K H p ys/\∀l,H l=none->Q (.ref l) (upd H l (.tup ys)))\/(SqT X.K H p ys/\Q (.ref p) H))):=by
 intro pins s σ H xs us Q I r h
 obtain⟨p,ys,rfl,h⟩:=h
 obtain⟨u,rfl,rx⟩:=Us r
 cases rx
 rcases h with⟨hq,q⟩|⟨hq,q⟩
 ·obtain⟨its,r',pl,hz⟩:=I.list hq
  have hlen:=r'.length
  refine call_tuple_list pl.isList (fun h' kp=>?_) (by simp only[List.size_toArray]<;>omega)
  have I1:Inv X pins σ H {s with heap:=h'}:=I.kept (t':=s.toks) kp
  have I2:Inv X pins σ (upd H h'.objs.size (.tup ys)) {s with heap:=h'.push {cls:=.type "tuple", data:=.seq its.toArray}}:=
   I1.laid (t':=s.toks) (fun b o e=>Heap.get?_push_of_some _ e) (Nat.le_refl _) (show ObjOk X.prog X.w _ _ _ (.tup ys) from⟨hz,its,r',IsTup.new _ _⟩)
  exact⟨.ref h'.objs.size,_,I2,rfl,q _ (I1.hok.fresh (Nat.le_refl _))⟩
 ·obtain⟨its,r',pl,hz⟩:=I.tuple hq
  exact call_tuple_same pl ⟨.ref p,H,I,rfl,q⟩
def Zn2 (K:PySem.W.Frag)(T:String)(x:V)(H:Hp):Prop:=match x with
 |.str _=>T="str"
 |.int _=>T="int"
 |.ref p=>(T="list"/\∃xs,SqL K H p xs)\/(T="tuple"/\∃o,K.lookup p=some o/\o.cls=.type "tuple"/\o.dict=none) \/
   (T="dict"/\((∃kvs,H p=some (.dK kvs))\/∃kvs,H p=some (.dT kvs)))\/(T="set"/\∃S n,H p=some (.set S n))
 |_=>False
def Zbq {pins:List (Addr×Obj)}{σ:St}{H:Hp}{s:Shared}{T:String}{x:V}{v:Value}(I:Inv X pins σ H s)(r:RelV x v)(ty:Zn2 X.K T x H):
  s.TypeIs v T/\∀a,v=.ref a->∃ob,s.heap.get? a=some ob/\ob.dict=none:=by
 cases x with
 |str z=>
  obtain⟨t,rfl⟩:=r
  cases (show T="str" from ty)
  exact⟨typeIs_str s z t,fun _ e=>nomatch e⟩
 |int i=>
  obtain⟨t,rfl⟩:=r
  cases (show T="int" from ty)
  exact⟨typeIs_int s i t,fun _ e=>nomatch e⟩
 |ref p=>
  cases r
  rcases ty with⟨rfl,xs,hq⟩|⟨rfl,o,hk,hc,hd⟩|⟨rfl,hk⟩|⟨rfl,S,n,hk⟩
  ·obtain⟨its,_,pl,_⟩:=I.list hq
   refine⟨pl.isList.typeIs,fun a e=>?_⟩
   cases e
   obtain⟨o,n,e,c,hd,_⟩:=pl
   exact⟨o,e,hd⟩
  ·refine⟨⟨o,I.kIn p o hk,hc⟩,fun a e=>?_⟩
   cases e
   exact⟨o,I.kIn _ o hk,hd⟩
  ·have z:∃o,s.heap.get? p=some o/\o.ExactDict:=by
    rcases hk with⟨kvs,hk⟩|⟨kvs,hk⟩
    ·obtain⟨_,_,_,_,o,_,_,e,ex,_⟩:=I.hok p _ hk
     exact⟨o,e,ex⟩
    ·obtain⟨_,_,_,_,o,_,_,e,ex,_⟩:=I.hok p _ hk
     exact⟨o,e,ex⟩
   obtain⟨o,e,ex⟩:=z
   refine⟨⟨o,e,ex.1⟩,fun a e2=>?_⟩
   cases e2
   exact⟨o,e,ex.2.1⟩
  ·obtain⟨o,_,_,_,e,ex,_⟩:=I.hok p _ hk
   refine⟨⟨o,e,ex.1⟩,fun a e2=>?_⟩
   cases e2
   exact⟨o,e,ex.2.1⟩
 |_=>exact False.elim ty
def Zn3 (K:PySem.W.Frag)(T:String)(r:V->List V->Hp->VK->Prop)(to:TE):TE:=fun σ H Q=>to σ H fun x H1=>Zn2 K T x H1/\r x [] H1 Q
def Zo6 (K:PySem.W.Frag)(T:String)(r:V->List V->Hp->VK->Prop)(to:TE)(t:TA):TE:=fun σ H Q=>to σ H fun x H1=>Zn2 K T x H1/\t σ H1 fun xs H2=>r x xs H2 Q
variable {o e:Expr}{es:List Expr}{to:TE}{t:TA}{name:Str}{apos cpos:Pos}{T id:String}{r:V->List V->Hp->VK->Prop}
def Zbr (pa:PlainAttrs T)(slot:Slot T name id) (hty:typeOf (.builtin id)=pure (.type "method_descriptor")) (hm:Zos X id r) (ho:PE X o to)
  (hbase:attributeBase o name X.env (eval o X.env)=eval o X.env:=by rfl) (hline:(apos.endLine==cpos.line)=true:=by rfl):PE X (.Call (.Attribute o name apos) [] [] cpos) (Zn3 X.K T r to):=by
 intro pins s σ H Q I h
 refine wpAny_Call_method0_late hbase hline (Yj (ho pins s σ H _ I h) fun v s1 ⟨x,H1,I1,r1,ty,q1⟩=>?_)
 obtain⟨h1,h2⟩:=Zbq I1 r1 ty
 exact⟨T,id,pa,slot,hty,h1,h2,Calls.callWith_builtin rfl (PySem.evalArgs_none (hm pins s1 σ H1 x [] v [] Q I1 r1 .nil q1))⟩
def Zbs (pa:PlainAttrs T)(slot:Slot T name id) (hty:typeOf (.builtin id)=pure (.type "method_descriptor")) (hm:Zos X id r) (ho:PE X o to) (ha:PA X (e::es) t)
  (hbase:attributeBase o name X.env (eval o X.env)=eval o X.env:=by rfl)
  (hfew:((backTo cpos (starEach (e::es) X.env)).all (fun x=>!x.1)&&(backToKw cpos (keywordEach [] X.env)).all (fun x=>x.1.isSome)
   && decide ((e::es).length+([]:List Keyword).length+(if([]:List Keyword).isEmpty then 0 else 1)<30))=true:=by rfl)
  (hline:(apos.endLine==cpos.line)=true:=by rfl) (hs:starEach (e::es) X.env=(false,eval e X.env)::starEach es X.env:=by rfl) (hplain:(backTo cpos (starEach es X.env)).any (·.1)=false:=by rfl):
  PE X (.Call (.Attribute o name apos) (e::es) [] cpos) (Zo6 X.K T r to t):=by
 intro pins s σ H Q I h
 refine wpAny_Call_method_late hbase hfew hline rfl (Yj (ho pins s σ H _ I h) fun v s1 ⟨x,H1,I1,r1,ty,q1⟩=>?_)
 obtain⟨h1,h2⟩:=Zbq I1 r1 ty
 refine⟨T,id,pa,slot,hty,h1,h2,?_⟩
 have hA:=ha cpos pins s1 σ H1 _ I1 q1
 rw[hs] at hA ⊢
 refine Calls.callWith_builtin (by show(false||(backTo cpos (starEach es X.env)).any (·.1))=false;rw[hplain]<;>rfl) (Calls.evalArgs_plain ?_)
 exact Yj hA fun us s2 ⟨vs,H2,I2,r2,q2⟩=>hm pins s2 σ H2 x vs v us Q I2 r1 r2 q2
end
def Zm8 (X:Cx)(id:String)(r:V->List V->Hp->VK->Prop):Prop:=
 ∀(pins:List (Addr×Obj)) (s:Shared) (σ:St) (H:Hp) (x:V) (xs:List V) (v:Value) (us:List Value) (Q:VK),Inv X pins σ H s->RelV x v->Vals xs us->r x xs H Q ->
  wpAny (model X.prog X.w) X.A (call (.builtin id) (v::us)) (EP X pins σ Q) X.xe s
def Vals.one:∀{x:V}{us:List Value},Vals [x] us->∃u,us=[u]/\RelV x u
 |_,_,.cons r .nil=>⟨_,rfl,r⟩
def Vals.zero:∀{us:List Value},Vals [] us->us=[]
 |_,.nil=>rfl
theorem Vals.dropLast {xs:List V}{us:List Value}(h:Vals xs us):Vals xs.dropLast us.dropLast:=by
 induction h with
 |nil=>exact .nil
 |cons r t ih=>
  cases t with
  |nil=>exact .nil
  |cons q t'=>exact .cons r ih
def Ed {α:Type}(l:List α):l.eraseIdx (l.length-1)=l.dropLast:=by
 induction l with
 |nil=>rfl
 |cons a r ih=>
  cases r with
  |nil=>rfl
  |cons b r=>
   have e:(a::b::r).length-1=((b::r).length-1)+1:=by
    have h1:(a::b::r).length=r.length+2:=rfl
    have h2:(b::r).length=r.length+1:=rfl
    omega
   rw[e,List.eraseIdx_cons_succ,ih]
   all_goals rfl
section
variable {X:Cx}{pins:List (Addr×Obj)}{σ:St}{H:Hp}{s:Shared}{l b:Addr}{xs ys zs:List V}
def Inv.lset {its its':List Value}{n:Nat}{f:Array Value->Array Value}{t':Nat}(I:Inv X pins σ H s)(hH:H l=some (.lst xs))
  (e:s.heap.get? l=some {cls:=.type "list", data:=.seq its.toArray n}) (hf:f its.toArray=its'.toArray) (hv:Vals ys its') (hz:ys.length<=sizeLine):
  Inv X pins σ (upd H l (.lst ys)) {s with heap:=s.heap.update l (Obj.mapSeq f),toks:=t'}:=by
 have q:=PySem.IsL.update e f
 rw[hf] at q
 refine I.write (x:=l) (e:=l) (by rw[hH];exact trivial) (.inl rfl) (fun b' u hb hu=>(Heap.get?_update_other s.heap (Obj.mapSeq f) (Ne.symm hb)).trans hu) ⟨_,q⟩ ?_
 exact⟨hz,its',_,hv,q⟩
def Inv.lnew {its:List Value}{t':Nat}(I:Inv X pins σ H s)(hv:Vals ys its)(hz:ys.length<=sizeLine):
  Inv X pins σ (upd H s.heap.objs.size (.lst ys)) {s with heap:=s.heap.push {cls:=.type "list", data:=.seq its.toArray},toks:=t'}:=
 I.laid (fun _ _ q=>Heap.get?_push_of_some _ q) (Nat.le_refl _) ⟨hz,its,0,hv,Heap.get?_push_size _ rfl⟩
theorem Inv.fresh (I:Inv X pins σ H s):H s.heap.objs.size=none:=I.hok.fresh (Nat.le_refl _)
def Inv.lstM (I:Inv X pins σ H s)(hH:H l=some (.lst xs)):xs.length<=sizeLine/\∃(its:List Value) (n:Nat),Vals xs its/\xs.length=its.length/\s.heap.get? l=some {cls:=.type "list", data:=.seq its.toArray n}:=by
 obtain⟨z,its,n,r,e⟩:=I.hok l _ hH
 exact⟨z,its,n,r,r.length,e⟩
end
section
variable {X:Cx}
def Zfd:V->List V->Hp->VK->Prop:=fun x vs H Q=>∃l xs y,x=.ref l/\vs=[y]/\H l=some (.lst xs)/\xs.length<sizeLine/\Q .non (upd H l (.lst (xs++[y])))
def Wp:Zm8 X "list.append" Zfd:=by
 intro pins s σ H x vs v us Q I rx rv h
 obtain⟨l,xs,y,rfl,rfl,hH,hz,q⟩:=h
 cases rx
 obtain⟨u,rfl,ru⟩:=rv.one
 obtain⟨z,its,n,r,hl,e⟩:=I.lstM hH
 refine call_meets F.slot_list_append ⟨_,e,rfl⟩ F.entry_list_append (F.args_list_append_2 _ _) (PySem.list_append l its.toArray n u (by rw[List.size_toArray];omega)) ⟨e,?_⟩
 refine⟨.non,_,I.lset (its':=its++[u]) hH e (by simp) (r.append (.cons ru .nil)) ?_,rfl,q⟩
 rw[List.length_append,List.length_singleton]
 omega
def Zn4:V->List V->Hp->VK->Prop:=fun x vs H Q=>∃l xs y,x=.ref l/\vs=[]/\H l=some (.lst xs)/\xs[xs.length-1]?=some y/\Q y (upd H l (.lst xs.dropLast))
def Zi3:Zm8 X "list.pop" Zn4:=by
 intro pins s σ H x vs v us Q I rx rv h
 obtain⟨l,xs,y,rfl,rfl,hH,hy,q⟩:=h
 cases rx
 have hus:=rv.zero
 subst hus
 obtain⟨z,its,n,r,hl,e⟩:=I.lstM hH
 obtain⟨u,hu,ru⟩:=r.get hy
 have hy':its.toArray[its.toArray.size-1]?=some u:=by
  show its.toArray[its.length-1]?=some u
  rw[<-Array.getElem?_toList,<-hl]
  exact hu
 refine call_meets F.slot_list_pop ⟨_,e,rfl⟩ F.entry_list_pop (F.args_list_pop_1 _) (MeetsSeq.list_pop_last l its.toArray n u hy' (by rw[List.size_toArray];omega)) ⟨e,?_⟩
 refine⟨y,_,I.lset (its':=its.dropLast) hH e ?_ r.dropLast ?_,ru,q⟩
 ·show its.toArray.eraseIdxIfInBounds (its.toArray.size-1)=its.dropLast.toArray
  rw[List.size_toArray,List.eraseIdxIfInBounds_toArray,Ed]
 ·rw[List.length_dropLast]
  omega
end
section
variable {κ:Type} [DecidableEq κ]
def Xp (kvs:List (κ×V))(k:κ):Option V:=(kvs.find? fun kv=>decide (kv.1=k)).map (·.2)
def Jz (kvs:List (κ×V))(k:κ)(v:V):List (κ×V):=
 if(kvs.any fun kv=>decide (kv.1=k))=true then kvs.map (fun kv=>if kv.1=k then(kv.1,v) else kv) else kvs++[(k,v)]
def Y9 {p:κ×V}{r:List (κ×V)}{k:κ}(e:p.1=k):Xp (p::r) k=some p.2:=by simp[Xp,List.find?_cons,e]
def Yz {p:κ×V}{r:List (κ×V)}{k:κ}(e:¬p.1=k):Xp (p::r) k=Xp r k:=by simp[Xp,List.find?_cons,e]
theorem Gq (k:κ):∀kvs:List (κ×V),(kvs.any fun kv=>decide (kv.1=k))=(Xp kvs k).isSome
 |[]=>rfl
 |p::r=>by
  rw[List.any_cons]
  by_cases e:p.1=k
  ·simp only[Y9 e,decide_eq_true e,Bool.true_or,Option.isSome_some]
  ·rw[Yz e,decide_eq_false e,Bool.false_or];exact Gq k r
theorem A0 (k j:κ)(y:V):∀kvs:List (κ×V),Xp (kvs.map fun kv=>if kv.1=k then(kv.1,y) else kv) j=(Xp kvs j).map fun x=>if j=k then y else x
 |[]=>rfl
 |p::r=>by
  have ih:=A0 k j y r
  rw[List.map_cons]
  by_cases h:p.1=k
  ·rw[if_pos h]
   by_cases e:p.1=j
   ·rw[Y9 (p:=(p.1,y)) e,Y9 e,Option.map_some,if_pos (e.symm.trans h)]
   ·rw[Yz (p:=(p.1,y)) e,Yz e,ih]
  ·rw[if_neg h]
   by_cases e:p.1=j
   ·rw[Y9 (p:=p) e,Y9 e,Option.map_some,if_neg (fun z=>h (e.trans z))]
   ·rw[Yz (p:=p) e,Yz e,ih]
theorem Lu (k j:κ)(y:V):∀kvs:List (κ×V),Xp kvs k=none->Xp (kvs++[(k,y)]) j=if j=k then some y else Xp kvs j
 |[],_=>by
  by_cases e:k=j
  ·rw[if_pos e.symm];exact Y9 (p:=(k,y)) e
  ·rw[if_neg (fun z=>e z.symm)];exact Yz (p:=(k,y)) e
 |p::r,hn=>by
  rw[List.cons_append]
  have hk:¬p.1=k:=fun z=>by rw[Y9 z] at hn;cases hn
  rw[Yz hk] at hn
  have ih:=Lu k j y r hn
  by_cases e:p.1=j
  ·rw[Y9 e,Y9 e,if_neg (fun z=>hk (e.trans z))]
  ·rw[Yz e,Yz e,ih]
def Zbt (kvs:List (κ×V))(k j:κ)(y:V):Xp (Jz kvs k y) j=if j=k then some y else Xp kvs j:=by
 unfold Jz
 by_cases a:(kvs.any fun kv=>decide (kv.1=k))=true
 ·rw[if_pos a,A0]
  rw[Gq] at a
  by_cases e:j=k
  ·obtain⟨x,hx⟩:=Option.isSome_iff_exists.mp a
   rw[if_pos e,e,hx,Option.map_some,if_pos rfl]
  ·rw[if_neg e]
   cases Xp kvs j with
   |none=>rfl
   |some x=>rw[Option.map_some,if_neg e]
 ·rw[if_neg a]
  refine Lu k j y kvs ?_
  rw[Gq] at a
  cases q:Xp kvs k with
  |none=>rfl
  |some x=>rw[q] at a;exact(a rfl).elim
def Vg (kvs:List (κ×V))(k:κ)(v:V):(Jz kvs k v).length<=kvs.length+1:=by
 unfold Jz
 split
 ·rw[List.length_map];omega
 ·rw[List.length_append,List.length_cons,List.length_nil];omega
def RelO.isSome_eq {o:Option V}{u:Option Value}(r:RelO o u):o.isSome=u.isSome:=by
 cases o with
 |none=>cases u with
  |none=>rfl
  |some _=>exact(show False from r).elim
 |some _=>cases u with
  |none=>exact(show False from r).elim
  |some _=>rfl
theorem RelO.getD {o:Option V}{u:Option Value}{d:V}{d':Value}(r:RelO o u)(rd:RelV d d'):RelV (o.getD d) (u.getD d'):=by
 cases o with
 |none=>cases u with
  |none=>exact rd
  |some _=>exact(show False from r).elim
 |some _=>cases u with
  |none=>exact(show False from r).elim
  |some _=>exact r
def KV.val {kvs:List (κ×V)}{vs:List (κ×Value)}(r:KV kvs vs)(k:κ):RelO (Xp kvs k) (valueAt vs k):=by
 unfold KV at r
 induction r with
 |nil=>exact True.intro
 | @cons p q ps qs h t ih=>
  obtain⟨h1,h2⟩:=h
  by_cases e:p.1=k
  ·have e':q.1=k:=h1.symm.trans e
   have b:valueAt (q::qs) k=some q.2:=by simp[valueAt,List.find?_cons,e']
   rw[Y9 e,b];exact h2
  ·have e':¬q.1=k:=fun z=>e (h1.trans z)
   have b:valueAt (q::qs) k=valueAt qs k:=by simp[valueAt,List.find?_cons,e']
   rw[Yz e,b];exact ih
theorem KV.any {kvs:List (κ×V)}{vs:List (κ×Value)}(r:KV kvs vs)(k:κ):(kvs.any fun kv=>decide (kv.1=k))=vs.any fun kv=>decide (kv.1=k):=by
 unfold KV at r
 induction r with
 |nil=>rfl
 |cons h t ih=>rw[List.any_cons,List.any_cons,ih,h.1]
def KV.repl {kvs:List (κ×V)}{vs:List (κ×Value)}(r:KV kvs vs)(k:κ){y:V}{u:Value}(ry:RelV y u):
  KV (kvs.map fun kv=>if kv.1=k then(kv.1,y) else kv) (vs.map fun kv=>if kv.1=k then(kv.1,u) else kv):=by
 unfold KV at r ⊢
 induction r with
 |nil=>exact .nil
 | @cons p q ps qs h t ih=>
  rw[List.map_cons,List.map_cons]
  refine .cons ?_ ih
  obtain⟨h1,h2⟩:=h
  by_cases e:p.1=k
  ·rw[if_pos e,if_pos (h1.symm.trans e)];exact⟨h1,ry⟩
  ·rw[if_neg e,if_neg (fun z=>e (h1.trans z))];exact⟨h1,h2⟩
def KV.put {kvs:List (κ×V)}{vs:List (κ×Value)}(r:KV kvs vs)(k:κ){y:V}{u:Value}(ry:RelV y u):KV (Jz kvs k y) (stored vs k u):=by
 unfold Jz stored
 rw[r.any k]
 by_cases e:(vs.any fun kv=>decide (kv.1=k))=true
 ·rw[if_pos e,if_pos e];exact r.repl k ry
 ·rw[if_neg e,if_neg e];exact Paired.snoc r ⟨rfl,ry⟩
theorem KV.length {kvs:List (κ×V)}{vs:List (κ×Value)}(r:KV kvs vs):kvs.length=vs.length:=Paired.length r
end
def A3 {P:Program}{w:World}{k:Yo}{u:Value}(r:RelV (kV k) u):(Y4 P w).is k u=true:=by
 cases k with
 |inl i=>obtain⟨t,e⟩:=(show ∃t,u=Value.int i t from r);subst e;exact Aq P w i t
 |inr x=>obtain⟨t,e⟩:=(show ∃t,u=Value.str x t from r);subst e;exact Ar P w x t
theorem Lw {P:Program}{w:World}:∀{ks:List Yo}{us:List Value},Vals (ks.map kV) us->ItemsAre (Y4 P w) ks us
 |[],_,r=>by rw[List.map_nil] at r;cases r;exact .nil
 |k::ks,_,r=>by
  rw[List.map_cons] at r
  cases r with
  |cons h t=>exact .cons (A3 h) (Lw t)
abbrev KT (H:Hp):List (List Yo×V)->List (List Yo×Addr×Value)->Prop:=Paired fun p q=>p.1=q.1/\H q.2.1=some (.tup (p.1.map kV))/\RelV p.2 q.2.2
def KT.val {H:Hp}{kvs:List (List Yo×V)}{xs:List (List Yo×Addr×Value)}(r:KT H kvs xs)(k:List Yo):RelO (Xp kvs k) ((atKey xs k).map (·.2)):=by
 induction r with
 |nil=>exact True.intro
 | @cons p q ps qs h t ih=>
  obtain⟨h1,_,h2⟩:=h
  by_cases e:p.1=k
  ·have e':q.1=k:=h1.symm.trans e
   have b:atKey (q::qs) k=some q.2:=by simp[atKey,List.find?_cons,e']
   rw[Y9 e,b];exact h2
  ·have e':¬q.1=k:=fun z=>e (h1.trans z)
   have b:atKey (q::qs) k=atKey qs k:=by simp[atKey,List.find?_cons,e']
   rw[Yz e,b];exact ih
def KT.repl {H:Hp}{kvs:List (List Yo×V)}{xs:List (List Yo×Addr×Value)}(r:KT H kvs xs)(k:List Yo){y:V}{u:Value}(ry:RelV y u):
  KT H (kvs.map fun kv=>if kv.1=k then(kv.1,y) else kv) (xs.map (putAt k u)):=by
 induction r with
 |nil=>exact .nil
 | @cons p q ps qs h t ih=>
  rw[List.map_cons,List.map_cons]
  refine .cons ?_ ih
  obtain⟨h1,h2,h3⟩:=h
  unfold putAt
  by_cases e:p.1=k
  ·rw[if_pos e,if_pos (h1.symm.trans e)];exact⟨h1,h2,ry⟩
  ·rw[if_neg e,if_neg (fun z=>e (h1.trans z))];exact⟨h1,h2,h3⟩
def KT.put {H:Hp}{kvs:List (List Yo×V)}{xs:List (List Yo×Addr×Value)}(r:KT H kvs xs)(k:List Yo){b:Addr}{y:V}{u:Value}(hb:H b=some (.tup (k.map kV)))(ry:RelV y u):
  KT H (Jz kvs k y) (storedH xs k b u):=by
 have e:(kvs.any fun kv=>decide (kv.1=k))=(atKey xs k).isSome:=by
  rw[Gq,(r.val k).isSome_eq,Option.isSome_map]
 unfold Jz storedH
 rw[e]
 by_cases q:(atKey xs k).isSome=true
 ·rw[if_pos q,if_pos q];exact r.repl k ry
 ·rw[if_neg q,if_neg q];exact Paired.snoc r ⟨rfl,hb,ry⟩
def KT.keeps {H H':Hp}{kvs:List (List Yo×V)}{xs:List (List Yo×Addr×Value)}(r:KT H kvs xs)(ht:∀b ys,H b=some (.tup ys)->H' b=some (.tup ys)):KT H' kvs xs:=
 Paired.mapP r fun _ _ z=>⟨z.1,ht _ _ z.2.1,z.2.2⟩
section
variable {P:Program}{w:World}{H:Hp}{h:Heap}{a:Addr}
def Zhn {u:HO}(ok:HOk P w H h)(e:Rd H a u):ObjOk P w H h a u:=e.ok ok
def Lx {kvs:List (Yo×V)}(ok:HOk P w H h)(e:Rd H a (.dK kvs)):kvs.length<=sizeLine/\(a==sysModules)=false/\∃vs,KV kvs vs/\h.DictOf (Y4 P w) a vs:=
 show ObjOk P w H h a (.dK kvs) from Zhn ok e
def Zlw {kvs:List (Yo×V)}(ok:HOk P w H h)(e:H a=some (.dK kvs)):kvs.length<=sizeLine/\(a==sysModules)=false/\∃vs,KV kvs vs/\h.DictOf (Y4 P w) a vs:=Lx ok (.inl e)
def N6 {ks:List Yo}(ok:HOk P w H h)(e:H a=some (.tup (ks.map kV))):(tupleKind (Y4 P w)).is h ks a:=by
 obtain⟨_,its,r,o,h1,h2,n,h3⟩:=(show ObjOk P w H h a (.tup (ks.map kV)) from ok a _ e)
 exact⟨o,its.toArray,n,h1,h2,h3,by simpa using Lw r⟩
def Ly {kvs:List (List Yo×V)}(ok:HOk P w H h)(e:Rd H a (.dT kvs)):kvs.length<=sizeLine/\(a==sysModules)=false /\
  ∃xs,KT H kvs xs/\h.DictOfH (tupleKind (Y4 P w)) a xs:=by
 obtain⟨z,y,xs,r,o,es,ep,h1,h2,h3,h4,h5⟩:=(show ObjOk P w H h a (.dT kvs) from Zhn ok e)
 refine⟨z,y,xs,r,o,es,ep,h1,h2,h3,h4,fun x hx=>?_,h5⟩
 have all:∀{l:List (List Yo×V)}{m:List (List Yo×Addr×Value)},KT H l m->∀x∈m,(tupleKind (Y4 P w)).is h x.1 x.2.1:=by
  intro l m q
  induction q with
  |nil=>intro x hx;exact nomatch hx
  | @cons p q ps qs hq t ih=>
   intro x hx
   rcases List.mem_cons.mp hx with e|hx
   ·subst e
    exact N6 ok (by rw[<-hq.1];exact hq.2.1)
   ·exact ih x hx
 exact all r x hx
def Zho {kvs:List (List Yo×V)}(ok:HOk P w H h)(e:H a=some (.dT kvs)):kvs.length<=sizeLine/\(a==sysModules)=false /\
  ∃xs,KT H kvs xs/\h.DictOfH (tupleKind (Y4 P w)) a xs:=Ly ok (.inl e)
end
def DGet (H:Hp)(a:Addr)(y:V)(r:Option V):Prop:=
 (∃kvs k,Rd H a (.dK kvs)/\y=kV k/\r=Xp kvs k)\/∃kvs k b,Rd H a (.dT kvs)/\y=.ref b/\H b=some (.tup (k.map kV))/\r=Xp kvs k
def DPut (H:Hp)(a:Addr)(y v:V)(H':Hp):Prop:=
 (∃kvs k,H a=some (.dK kvs)/\y=kV k/\kvs.length<sizeLine/\H'=upd H a (.dK (Jz kvs k v))) \/
 ∃kvs k b,H a=some (.dT kvs)/\y=.ref b/\H b=some (.tup (k.map kV))/\kvs.length<sizeLine/\H'=upd H a (.dT (Jz kvs k v))
def DGet.t {H:Hp}{a b:Addr}{kvs:List (List Yo×V)}{k:List Yo}(e:H a=some (.dT kvs))(eb:H b=some (.tup (k.map kV))):DGet H a (.ref b) (Xp kvs k):=.inr ⟨kvs,k,b,.inl e,rfl,eb,rfl⟩
def DPut.t {H:Hp}{a b:Addr}{kvs:List (List Yo×V)}{k:List Yo}{v:V}(e:H a=some (.dT kvs))(eb:H b=some (.tup (k.map kV)))(hl:kvs.length<sizeLine):
  DPut H a (.ref b) v (upd H a (.dT (Jz kvs k v))):=.inr ⟨kvs,k,b,e,rfl,eb,hl,rfl⟩
section
variable {X:Cx}{pins:List (Addr×Obj)}{σ:St}{H:Hp}{s:Shared}{a:Addr}{y v:V}{u r:Value}{o:Option V}{A:Around}{E:Value->Shared->Prop}
def Inv.big (I:Inv X pins σ H s):sysModules<s.heap.objs.size:=by
 have h:mainGlobals<s.heap.objs.size:=(I.mod.glob.keeps I.bk).lt
 exact Nat.lt_trans (by decide) h
def Oq {Q:Value->Shared->Prop}(hu:A.units+1<cLine)(I:Inv X pins σ H s)(g:DGet H a y (some v))(ry:RelV y u)(h:∀w' s',Inv X pins σ H s'->RelV v w'->Q w' s'):
  wpAny (model X.prog X.w) A (getItem (.ref a) u) Q E s:=by
 rcases g with⟨kvs,k,e,ey,l⟩|⟨kvs,k,b,e,ey,eb,l⟩
 ·subst ey
  obtain⟨z,hd,vs,rel,dd⟩:=Lx I.hok e
  obtain⟨w',hw,rw'⟩:=RelO.some_of (v:=v) (o:=valueAt vs k) (by rw[l];exact rel.val k)
  exact wpAny_getItem_of (A3 ry) dd.mapOf hw (h w' _ (I.tok _) rw')
 ·subst ey
  cases (show u=Value.ref b from ry)
  obtain⟨z,hd,xs,rel,dd⟩:=Ly I.hok e
  obtain⟨w',hw,rw'⟩:=RelO.some_of (v:=v) (o:=(atKey xs k).map (·.2)) (by rw[l];exact rel.val k)
  obtain⟨p,hp,hp2⟩:=Option.map_eq_some_iff.mp hw
  refine wpAny_getItem_heap (tupleKind_room_in1 hu) (N6 I.hok eb) dd hp ?_
  rw[hp2]
  exact h w' _ (I.tok _) rw'
def Zfe {Q:Value->Shared->Prop}(hu:A.units+1<cLine)(I:Inv X pins σ H s)(g:DGet H a y o)(ry:RelV y u)(h:∀s',Inv X pins σ H s'->Q (.bool (!o.isSome)) s'):
  wpAny (model X.prog X.w) A (compareOp .NotIn u (.ref a)) Q E s:=by
 rcases g with⟨kvs,k,e,ey,l⟩|⟨kvs,k,b,e,ey,eb,l⟩
 ·subst ey
  obtain⟨z,hd,vs,rel,dd⟩:=Lx I.hok e
  refine wpAny_notIn_of (A3 ry) hd dd.mapOf ?_
  rw[<-(rel.val k).isSome_eq,<-l]
  exact h _ (I.tok _)
 ·subst ey
  cases (show u=Value.ref b from ry)
  obtain⟨z,hd,xs,rel,dd⟩:=Ly I.hok e
  refine wpAny_notIn_heap (tupleKind_room_in1 hu) (N6 I.hok eb) hd dd ?_
  have q:=(rel.val k).isSome_eq
  rw[Option.isSome_map] at q
  rw[<-q,<-l]
  exact h _ (I.tok _)
def Bc {h':Heap}{t':Nat}{ob:HO}(I:Inv X pins σ H s)(mu:Zk6 (H a))(hs:Heap.SameBut a s.heap h')(he:∃q,h'.get? a=some q)(new:ObjOk X.prog X.w (upd H a ob) h' a ob):
  Inv X pins σ (upd H a ob) {s with heap:=h',toks:=t'}:=
 I.write (x:=a) (e:=a) mu (.inl rfl) (fun b q hb z=>(hs.2 b hb).trans z) he new
def Zi4 {P:Program}{w:World}{H':Hp}{h':Heap}{kvs:List (Yo×V)}{vs:List (Yo×Value)}(z:kvs.length<=sizeLine)(hd:(a==sysModules)=false)(rel:KV kvs vs)(dd:h'.DictOf (Y4 P w) a vs):
  ObjOk P w H' h' a (.dK kvs):=⟨z,hd,vs,rel,dd⟩
def Os {H':Hp}{Q:Unit->Shared->Prop}(hu:A.units+1<cLine)(I:Inv X pins σ H s)(g:DPut H a y v H')(ry:RelV y u)(rv:RelV v r)(h:∀s',Inv X pins σ H' s'->Q () s'):
  wpAny (model X.prog X.w) A (setItem (.ref a) u r) Q E s:=by
 rcases g with⟨kvs,k,e,ey,l,eH⟩|⟨kvs,k,b,e,ey,eb,l,eH⟩
 ·subst ey eH
  obtain⟨z,hd,vs,rel,dd⟩:=Zlw I.hok e
  have hz:vs.length<=sizeLine:=by rw[<-rel.length];exact z
  have hl:(Jz kvs k v).length<=sizeLine:=by have:=Vg kvs k v;omega
  refine wpAny_setItem_pairs (hsz:=hz) (A3 ry) dd fun h' dd' hs=>h _ ?_
  have he:∃q,h'.get? a=some q:=let ⟨q,_,_,hq,_⟩:=dd';⟨q,hq⟩
  exact Bc I (by rw[e];exact True.intro) hs he (Zi4 hl hd (rel.put k rv) dd')
 ·subst ey eH
  cases (show u=Value.ref b from ry)
  obtain⟨z,hd,xs,rel,dd⟩:=Zho I.hok e
  have hz:xs.length<=sizeLine:=by rw[<-Paired.length rel];exact z
  have hl:(Jz kvs k v).length<=sizeLine:=by have:=Vg kvs k v;omega
  refine wpAny_setItem_heap (hsz:=hz) (tupleKind_room_in1 hu) (N6 I.hok eb) dd fun h' dd' hs=>h _ ?_
  obtain⟨q,es,ep,hq,h2,h3,h4,_,h5⟩:=dd'
  refine Bc I (by rw[e];exact True.intro) hs ⟨q,hq⟩ ⟨hl,hd,_,(rel.put k eb rv).keeps fun c ys ec=>?_,q,es,ep,hq,h2,h3,h4,h5⟩
  rw[Zm (Zhh ec e (fun z=>nomatch z))]
  exact ec
end
def Zlx (i:Expr):Prop:=∀ov iv,subscripted i false ov iv=operate [ov,iv] (getItem ov iv)
def Zff {prog:Program}{w:World}{A:Around}{E:Value->Shared->Prop}{s:Shared}{env:Env}{value slice:Expr}{pos:Pos}{T id:String}{Q:Value->Shared->Prop}
  (hl:typeLookup (.type T) "__getitem__"=pure (some (.builtin id))) (hs:Zlx slice)
  (h:wpAny (model prog w) A (eval value env) (fun o s₁=>wpAny (model prog w) A (eval slice env) (fun i s₂=>s₂.TypeIs o T/\wpAny (model prog w) A (getItem o i) Q E s₂) E s₁) E s):
  wpAny (model prog w) A (eval (.Subscript value slice pos) env) Q E s:=by
 refine Subscript_ (wpAny_mono h (fun o s₁ h₁=>wpAny_mono h₁ (fun i s₂ h₂=>?_) fun _ _ x=>x) fun _ _ x=>x)
 obtain⟨hT,h₂⟩:=h₂
 unfold subscriptTail
 refine wpAny_bind ?_
 rw[getitemInPython_of_ne hT.not_modules]
 refine wpAny_bind (wpAny_specialOf hT hl ?_)
 have fin:wpAny (model prog w) A (subscripted slice false o i) (fun r s₃=>wpAny (model prog w) A (letTemporaryGo value o r>>=fun _=>pure r) Q E s₃) E s₂:=by
  rw[hs o i]
  exact wpAny_operating (wpAny_mono h₂ (fun r s₃ h₃=>wpAny_bind (wpAny_letTemporaryGo (wpAny_pure h₃))) fun _ _ x=>x)
 first
  |exact wpAny_pure (wpAny_bind fin)
  |exact wpAny_bind (wpAny_pure (wpAny_bind fin))
  |exact wpAny_bind fin
def A4 {X:Cx}{pins:List (Addr×Obj)}{σ:St}{H:Hp}{s:Shared}{a:Addr}{y:V}{o:Option V}(I:Inv X pins σ H s)(g:DGet H a y o):s.TypeIs (.ref a) "dict":=by
 rcases g with⟨kvs,k,e,_,_⟩|⟨kvs,k,b,e,_,_,_⟩
 ·obtain⟨_,_,vs,_,dd⟩:=Lx I.hok e
  exact dd.typeIs
 ·obtain⟨_,_,xs,_,dd⟩:=Ly I.hok e
  exact dd.typeIs
def Zly (td ty:TE):TE:=fun σ H Q=>td σ H fun x H1=>ty σ H1 fun y H2=>∃a v,x=.ref a/\DGet H2 a y (some v)/\Q v H2
def Zfg (ty td:TE):TE:=fun σ H Q=>ty σ H fun y H1=>td σ H1 fun x H2=>∃a o,x=.ref a/\DGet H2 a y o/\Q (.bl (!o.isSome)) H2
def Zlz (td ty tv:TE):TS:=fun D σ H=>tv σ H fun v H1=>td σ H1 fun x H2=>ty σ H2 fun y H3=>∃a H4,x=.ref a/\DPut H3 a y v H4/\D.nx σ H4
section
variable {X:Cx}{o i e value:Expr}{pos pos' tpos:Pos}{td ty tv:TE}
def Zfh (hu:X.A.units+1<cLine)(ho:PE X o td)(hi:PE X i ty)(hs:Zlx i):PE X (.Subscript o i pos) (Zly td ty):=by
 intro pins s σ H Q I h
 refine Zff PySem.F.slot_dict_getitem.lookup hs (Yj (ho pins s σ H _ I h) fun u s1 ⟨x,H1,I1,rx,q1⟩=>Yj (hi pins s1 σ H1 _ I1 q1) fun iv s2 ⟨y,H2,I2,ry,a,v,ex,g,q2⟩=>?_)
 subst ex
 obtain rfl:u=Value.ref a:=rx
 exact⟨A4 I2 g,Oq hu I2 g ry fun w' s3 I3 rw'=>⟨v,H2,I3,rw',q2⟩⟩
def Ot (hu:X.A.units+1<cLine)(hi:PE X i ty)(ho:PE X o td):PC X .NotIn i o (Zfg ty td):=by
 intro pins s σ H Q I h
 refine Yj (hi pins s σ H _ I h) fun iv s1 ⟨y,H1,I1,ry,q1⟩=>Yj (ho pins s1 σ H1 _ I1 q1) fun u s2 ⟨x,H2,I2,rx,a,ov,ex,g,q2⟩=>?_
 subst ex
 obtain rfl:u=Value.ref a:=rx
 exact Zfe hu I2 g ry fun s3 I3=>⟨.bl (!ov.isSome),H2,I3,rfl,q2⟩
def Zfi (hu:X.A.units+1<cLine)(ho:PE X o td)(hi:PE X i ty)(hv:PE X value tv)(hs:swapsWith value (some (.Subscript o i pos')) pos.line X.env=pure false):
  PS X (.Assign [.Subscript o i pos'] value pos) (Zlz td ty tv):=by
 intro pins s σ H D I h
 refine wpAny_Assign_Subscript (Yj (hv pins s σ H _ I h) fun r s1 ⟨v,H1,I1,rv,q1⟩=>Yj (ho pins s1 σ H1 _ I1 q1) fun u s2 ⟨x,H2,I2,rx,q2⟩=>Yj (hi pins s2 σ H2 _ I2 q2) fun iv s3 ⟨y,H3,I3,ry,a,H4,ex,g,q3⟩=>?_) hs
 subst ex
 obtain rfl:u=Value.ref a:=rx
 exact Os hu I3 g ry rv fun s4 I4=>⟨σ,H4,I4,q3⟩
end
def Zbu {P:Program}{w:World}{H:Hp}(h:Heap)(hb:sysModules<h.objs.size):ObjOk P w H (h.push {cls:=.type "dict", data:=.dict #[]}) h.objs.size (.dT []):=
 ⟨Nat.zero_le _,beq_eq_false_iff_ne.mpr (Ne.symm (Nat.ne_of_lt hb)),[],.nil,_,#[],0,Heap.get?_push_size _ rfl,⟨rfl,rfl,rfl⟩,rfl,rfl,List.nodup_nil⟩
def Zi5:TE:=fun _ H Q=>∀p,H p=none->Q (.ref p) (upd H p (.dT []))
section
variable {X:Cx}{pos:Pos}
def A5:PE X (.Dict [] [] pos) Zi5:=fun pins s σ H Q I h=>
 wpAny_Dict_empty ⟨.ref s.heap.objs.size,_,I.laid (a:=s.heap.objs.size) (o:=.dT []) (t':=s.toks) (fun _ _ q=>Heap.get?_push_of_some _ q) (Nat.le_refl _) (Zbu s.heap I.big),rfl,h _ (I.hok.fresh (Nat.le_refl _))⟩
end
structure M2 (X:Cx) (o:Expr) (m:Str) (apos:Pos) (e f:Expr) (cpos:Pos):Prop where
 base:attributeBase o m X.env (eval o X.env)=eval o X.env
 few:((backTo cpos (starEach [e,f] X.env)).all (fun x=>!x.1)&&(backToKw cpos (keywordEach [] X.env)).all (fun x=>x.1.isSome)
  && decide (([e,f]:List Expr).length+([]:List Keyword).length+(if([]:List Keyword).isEmpty then 0 else 1)<30))=true
 line:(apos.endLine==cpos.line)=true
 trees:backTo cpos (starEach [e,f] X.env)=[(false,eval e X.env),(false,eval f X.env)]
def Zn5 (H:Hp)(a:Addr):Prop:=(∃kvs,Rd H a (.dK kvs))\/∃kvs,Rd H a (.dT kvs)
def Zbv {X:Cx}{pins:List (Addr×Obj)}{σ:St}{H:Hp}{s:Shared}{a:Addr}(I:Inv X pins σ H s)(d:Zn5 H a):
  s.TypeIs (.ref a) "dict"/\(∀b,Value.ref a=.ref b->∃ob,s.heap.get? b=some ob/\ob.dict=none)/\(a==sysModules)=false:=by
 rcases d with⟨kvs,e⟩|⟨kvs,e⟩
 ·obtain⟨_,hd,vs,_,dd⟩:=Lx I.hok e
  refine⟨dd.typeIs,fun b q=>?_,hd⟩
  cases q
  obtain⟨ob,_,_,h1,h2,_⟩:=dd
  exact⟨ob,h1,h2.2.1⟩
 ·obtain⟨_,hd,xs,_,dd⟩:=Ly I.hok e
  refine⟨dd.typeIs,fun b q=>?_,hd⟩
  cases q
  obtain⟨ob,_,_,h1,h2,_⟩:=dd
  exact⟨ob,h1,h2.2.1⟩
section
variable {X:Cx}{pins:List (Addr×Obj)}{σ:St}{H:Hp}{s:Shared}{a:Addr}{y d:V}{u r:Value}{o:Option V}{A:Around}{E:Value->Shared->Prop}
def Zi6 {Q:Value->Shared->Prop}(hu:A.units+1<cLine)(I:Inv X pins σ H s)(g:DGet H a y o)(ry:RelV y u)(rd:RelV d r)(h:∀w' s',Inv X pins σ H s'->RelV (o.getD d) w'->Q w' s'):
  wpAny (model X.prog X.w) A (call (.builtin "dict.get") [.ref a,u,r]) Q E s:=by
 rcases g with⟨kvs,k,e,ey,l⟩|⟨kvs,k,b,e,ey,eb,l⟩
 ·subst ey
  obtain⟨z,hd,vs,rel,dd⟩:=Lx I.hok e
  refine call_meetsIn PySem.F.slot_dict_get dd.typeIs PySem.F.entry_dict_get (PySem.F.args_dict_get_3 _ _ _) (meets_dict_get_default (Y4 X.prog X.w) a (A3 ry) hd r) ⟨_,dd.mapOf,h _ _ (I.tok _) ?_⟩
  rw[l]
  exact(rel.val k).getD rd
 ·subst ey
  cases (show u=Value.ref b from ry)
  obtain⟨z,hd,xs,rel,dd⟩:=Ly I.hok e
  refine call_meetsIn PySem.F.slot_dict_get dd.typeIs PySem.F.entry_dict_get (PySem.F.args_dict_get_3 _ _ _) (meetsH_dict_get_default (tupleKind (Y4 X.prog X.w)) a b hd r) ⟨tupleKind_room_in1 hu,k,xs,N6 I.hok eb,dd,h _ _ (I.tok _) ?_⟩
  rw[l]
  exact(rel.val k).getD rd
end
def Zi7 (td ty tx:TE):TE:=fun σ H Q=>td σ H fun x H1=>∃a,x=.ref a/\Zn5 H1 a/\ty σ H1 fun y H2=>tx σ H2 fun z H3=>∃o,DGet H3 a y o/\Q (o.getD z) H3
section
variable {X:Cx}{o e f:Expr}{apos cpos:Pos}{td ty tx:TE}
def Zbw (hu:X.A.units+1<cLine)(ho:PE X o td)(he:PE X e ty)(hf:PE X f tx) (m:M2 X o "get" apos e f cpos):PE X (.Call (.Attribute o "get" apos) [e,f] [] cpos) (Zi7 td ty tx):=by
 intro pins s σ H Q I h
 refine wpAny_Call_method m.base m.few m.line PySem.F.plainAttrs_dict PySem.F.slot_dict_get PySem.F.type_dict_get (Yj (ho pins s σ H _ I h) fun u s1 ⟨x,H1,I1,rx,a,ex,d,q1⟩=>?_)
 subst ex
 obtain rfl:u=Value.ref a:=rx
 obtain⟨t1,t2,_⟩:=Zbv I1 d
 refine⟨t1,t2,?_⟩
 rw[m.trees]
 refine Calls.callWith_builtin rfl (Calls.evalArgs_plain (Calls.spliced_cons (Yj (he pins s1 σ H1 _ I1 q1) fun iv s2 ⟨y,H2,I2,ry,q2⟩=>
  Calls.spliced_cons (Yj (hf pins s2 σ H2 _ I2 q2) fun fv s3 ⟨z,H3,I3,rz,ov,g,q3⟩=>Calls.spliced_nil ?_))))
 exact Zi6 hu I3 g ry rz fun w' s4 I4 rw'=>⟨_,H3,I4,rw',q3⟩
end
end L2
namespace Att
open PySem PySem.W PySem.Calls PyProof.Rows
def Ro {P:Params}{h:Heap}:∀(ns:List Int) (vs:List Value),WellAll P h vs (ns.map WData.int)->IntsAre vs ns:=by
 intro ns
 induction ns with
 |nil=>
  intro vs w
  rw[List.map_nil] at w
  cases w
  exact .nil
 |cons n ns ih=>
  intro vs w
  rw[List.map_cons] at w
  cases w with
  |cons a b=>
   cases a
   exact .cons _ _ (ih _ b)
def Ou {l:OpenLaw}{n:Nat}(hn:l.most=some n){P:Params}{h:Heap}{args:List WData}{vals:List Value}(hpre:l.row.toRowW.claim.pre args=true)(hwl:WellAll P h vals args):
  ∃a vs ns,vals=[Value.ref a]/\args=[WData.list (ns.map WData.int)]/\h.get? a=some {cls:=.type "list", data:=.seq vs.toArray}/\IntsAre vs ns/\ns.length<=n:=by
 have hsh:WShape.hasAll [] args [.list .int]=true:=(pre_splitW hpre).1
 have hc:l.pre.holds [] {args:=args}=true:=(pre_splitW hpre).2
 obtain⟨d,r,rfl,h1,h2⟩:=hasAllW_cons hsh
 obtain rfl:=hasAllW_nil h2
 obtain⟨xs,rfl,h3⟩:=hasW_list h1
 obtain⟨ns,rfl⟩:=items_int h3
 have hlen:ns.length<=n:=by
  unfold OpenLaw.pre at hc
  have h4:(WTm.not (.lt (.lit (.int (n:Int))) (.len (.arg 0)))).holds [] {args:=[.list (ns.map .int)]}=true:=by
   have h4:=(holds_andW hc).1
   rw[hn] at h4
   exact h4
  have h5:=condW_of h4 (w_not (w_lt w_lit (w_len_list (w_arg rfl))))
  rw[List.length_map] at h5
  refine Nat.le_of_not_lt fun q=>?_
  have q':(n:Int)<((ns.length:Nat):Int):=by omega
  first
   |(rw[decide_eq_true q'] at h5;exact absurd h5 (by decide))
   |(simp at h5;omega)
 cases hwl with
 |cons w1 w2=>
  cases w2
  cases w1 with
  |list ho hall=>exact⟨_,_,ns,rfl,rfl,ho,Ro ns _ hall,hlen⟩
def Ov (l:OpenLaw)(args:List WData):l.row.toRowW.claim.post args (.bool true) args=true:=
 postW_of (r:=l.row.toRowW) (X:=(true==true))
  (show WShape.has [] (.bool true) .bool=true by first|rfl|decide|simp[WShape.has,WShape.arms,WShape.armsAll])
  (show(WTm.eq .res (.lit (.bool true))).value [] {args:=args,res:=some (.bool true),after:=args}=some (.bool (true==true)) from w_eq_bool (w_res rfl) w_lit) rfl
def attach_call {l:OpenLaw}{n:Nat}{q:Program}{loose:List Str}{XP:(Str->Option Value)->Heap->Prop}{YP:World->Heap->Prop}{d:DefRec}(hn:l.most=some n)(hdf:d.params.defaults=[])
  (call:∀(w:World) (s₀ s₁:Shared) (mg mb:Str->Option Value) (fa:Addr) (o:Obj) (pm cd doc:Value) (a:Addr) (vs:List Value) (ns:List Int),
   Ground q loose [] XP w s₀ mg mb s₁.heap->YP w s₁.heap ->
   s₁.heap.get? fa=some o->o.data=.func (docDef d.name d.params d.body d.scope pm cd doc)->s₁.heap.CodeRec cd d.name->mg d.name=some (.ref fa) ->
   s₁.heap.get? a=some {cls:=.type "list", data:=.seq vs.toArray}->IntsAre vs ns->ns.length<=n->s₁.gens=#[] ->
   codeAny (model l.prog w) callerA (.call (.ref fa) ⟨[.ref a],[]⟩) (fun r s'=>r=.ok (.ret (.bool true))/\OldK s₁.heap s'.heap/\s'.os=s₁.os/\AllBare s'.gens) s₁):
  WalkO q loose XP YP l.row.toRowW d [] (fun f vs=>PySem.call f vs):=by
 intro w s₀ s₁ mg mb G Y fa o pm cd doc dV kV ho hd hcd hD hmg hg args vals as hpre hlay hrd hwl hlo
 obtain rfl:dV=.none:=Dflts.none hD hdf
 obtain rfl:kV=.none:=Dflts.noKw hD
 obtain⟨a,vs,ns,rfl,rfl,hobj,hints,hlen⟩:=Ou hn hpre hwl
 refine enter_call (codeAny_mono (call w s₀ s₁ mg mb fa o pm cd doc a vs ns G Y ho (fd_plain hd) hcd hmg hobj hints hlen hg) fun r s' hq=>?_)
 obtain⟨rfl,h2,h3,h4⟩:=hq
 exact⟨.inl ⟨.bool true,.bool true,[],rfl,fun _=>rfl,.bool true,Ov l _,fun _=>⟨List.Pairwise.nil,fun _ hm=>(nomatch hm)⟩⟩,h2,h3,h4⟩
end Att
namespace L2
open PySem PySem.Spec PyProof.Rows
theorem N7:∀{vs:List Value}{ns:List Int},IntsAre vs ns->Vals (ns.map V.int) vs
 |_,_,.nil=>.nil
 |_,_,.cons n t h=>.cons ⟨t,rfl⟩ (N7 h)
def Zi8 (H:Hp):Prop:=∀b,H b=none\/∃o xs,H b=some (.frz o (.lst xs))
def Zbx {P:Program}{w:World}{K:PySem.W.Frag}{mg mb:Str->Option Value}{CX:Zeq}{k:Nat}{fa a:Addr}{fd:FuncData}{x:Str}{sp:Sp}{s₁:Shared}{vs:List Value}{ns:List Int}(KX:K.In s₁.heap)(hns:s₁.heap.Ns mainGlobals mg)(hb:s₁.heap.Ns builtinsNs mb) (hbb:∀x:Str,x ≠ "__name__"->mb x=bootBuiltins x) (hlim:s₁.heap.NoLimit) (hg:s₁.gens=#[])
  (ha:s₁.heap.get? a=some {cls:=.type "list", data:=.seq vs.toArray}) (hi:IntsAre vs ns) (hl:ns.length<=sizeLine) (hr:Room k callerA)
  (F:∀base:Heap,K.In base->base.Ns mainGlobals mg->FnOk P w K mg base CX k fa fd [x] sp) (hbind:∀(s:Shared) (u:Value),BindsTo s fd ⟨[u],[]⟩ [(x,u)])
  (hsp:∀H:Hp,Zi8 H->SqL K H a (ns.map V.int)->sp [.ref a] H (fun v _=>v=.bl true) fun _ _ _=>False)
  (hCX:∀H e s',CX [] H s₁ (fun _ _ _=>False) e s'->False):
  codeAny (model P w) callerA (.call (.ref fa) ⟨[.ref a],[]⟩) (fun r s'=>r=.ok (.ret (.bool true))/\OldK s₁.heap s'.heap/\s'.os=s₁.os/\AllBare s'.gens) s₁:=by
 have rv:=N7 hi
 have lenV:=hi.length
 have core:∀H:Hp,Zi8 H->SqL K H a (ns.map V.int)->HOk P w H s₁.heap->(∀b,H b≠none->b=a)->(H a≠none->K.lookup a=none) ->
   codeAny (model P w) callerA (.call (.ref fa) ⟨[.ref a],[]⟩) (fun r s'=>r=.ok (.ret (.bool true))/\OldK s₁.heap s'.heap/\s'.os=s₁.os/\AllBare s'.gens) s₁:=by
  intro H hO hS hok hA hK
  have base_of:∀{b:Addr}{o:Obj},s₁.heap.get? b=some o->H b=none->(Mz s₁.heap H).get? b=some o:=fun e n=>Za7 e n
  have noA:∀{b:Addr}{o:Obj}{es:Array DictEntry}{ep:Nat},s₁.heap.get? b=some o->o.data=.dict es ep->H b=none:=fun {b o es ep} e d=>by
   cases q:H b with
   |none=>rfl
   |some u=>
    have e':b=a:=hA b (by rw[q];simp)
    subst e'
    rw[ha] at e;cases e
    have d':Data.seq vs.toArray _=Data.dict es ep:=d
    cases d'
  have nsK:∀{b:Addr}{m:Str->Option Value},s₁.heap.Ns b m->(Mz s₁.heap H).Ns b m:=fun {b m} ⟨o,es,ep,e,d,r⟩=>⟨o,es,ep,base_of e (noA e d),d,r⟩
  have hKb:K.In (Mz s₁.heap H):=fun b o e=>base_of (KX b o e) (by
   cases q:H b with
   |none=>rfl
   |some u=>
    have e':b=a:=hA b (by rw[q];simp)
    subst e'
    rw[hK (by rw[q];simp)] at e;cases e)
  have hM:Mod K mg (Mz s₁.heap H):=⟨hKb,nsK hns,⟨mb,nsK hb,hbb⟩,let ⟨mc,h1,h2⟩:=hlim;⟨mc,nsK h1,h2⟩⟩
  have e0:Env0 P w K mg (Mz s₁.heap H) callerA [] s₁ H:=⟨rfl,hM,fun b o e=>Zeu e,Nat.le_of_eq (Od _ _),trivial,fun b hb=>absurd (show b∈([]:List Addr) from hb) (by simp),hok,.of_eq hg⟩
  refine codeAny_mono ((F _ hKb (nsK hns)).run callerA [] s₁ H ⟨[.ref a],[]⟩ [.ref a] [.ref a] _ _ hr e0 (hbind s₁ (.ref a)) (.cons rfl .nil) (hsp H hO hS)) fun r s' h=>?_
  cases r with
  |error e=>exact(hCX H e s' h).elim
  |ok fl=>
   cases fl with
   |next=>exact False.elim h
   |brk=>exact False.elim h
   |cont=>exact False.elim h
   |ret u=>
    obtain⟨v,H',os,bare,un,hok',r',q⟩:=h
    have q':v=.bl true:=q
    subst q'
    obtain rfl:u=Value.bool true:=r'
    refine⟨rfl,OldK.of_keep fun b o e=>?_,os,bare⟩
    cases q:H b with
    |none=>exact un.keep b o e q (by intro z;exact absurd (show b∈([]:List Addr) from z) (by simp)) (by simp)
    |some u=>
     rcases hO b with z|⟨ob,xs,z⟩
     ·rw[q] at z;cases z
     ·have z2:=un.frzs b ob _ z
      obtain⟨e1,_⟩:=hok b _ z
      obtain⟨e2,_⟩:=hok' b _ z2
      rw[e] at e1;cases e1
      exact e2
 cases hk:K.lookup a with
 |some o=>
  have e:=KX a o hk
  rw[ha] at e
  cases e
  refine core (fun _=>none) (fun _=>.inl rfl) (.inr ⟨_,vs.toArray,_,hk,rfl,rfl,rfl,by rw[List.size_toArray,lenV];exact hl,by simpa using rv⟩) (fun b u z=>by have z':(none:Option HO)=some u:=z;cases z') (fun b z=>absurd rfl z) fun z=>absurd rfl z
 |none=>
  refine core (fun b=>if b=a then some (.frz {cls:=.type "list", data:=.seq vs.toArray} (.lst (ns.map V.int))) else none) (fun b=>?_) (.inl (.inr ⟨{cls:=.type "list", data:=.seq vs.toArray},if_pos rfl⟩)) (fun b u z=>?_) (fun b z=>?_) fun _=>hk
  ·by_cases hb:b=a
   ·exact .inr ⟨_,_,if_pos hb⟩
   ·exact .inl (if_neg hb)
  ·by_cases hb:b=a
   ·have z':=(if_pos hb).symm.trans z
    cases z'
    subst hb
    exact⟨ha,by rw[List.length_map];exact hl,vs,_,rv,ha⟩
   ·have z':=(if_neg hb).symm.trans z
    cases z'
  ·by_cases hb:b=a
   ·exact hb
   ·exact absurd (if_neg hb) z
def Zfj {l:PySem.W.OpenLaw}{n k:Nat}{q:Program}{loose:List Str}{XP:(Str->Option Value)->Heap->Prop}{YP:World->Heap->Prop}{d:DefRec}{K:Params->PySem.W.Frag}{CX:World->Zeq}{sp:World->Sp}{x:Str}(hn:l.most=some n)(hn2:n<=sizeLine)(hdf:d.params.defaults=[])(hr:Room k callerA)(hY:∀(w:World) (h:Heap),YP w h->(K w.params).In h)(F:∀(w:World) (mg:Str->Option Value) (fa:Addr) (h:Heap),(K w.params).In h->h.Ns mainGlobals mg->mg d.name=some (.ref fa) ->
   ∃fd:FuncData,(∀(s:Shared) (u:Value),BindsTo s fd ⟨[u],[]⟩ [(x,u)]) /\
    ∀base:Heap,(K w.params).In base->base.Ns mainGlobals mg->FnOk l.prog w (K w.params) mg base (CX w) k fa fd [x] (sp w))(hsp:∀(w:World) (H:Hp) (a:Addr) (ns:List Int),ns.length<=n->Zi8 H->SqL (K w.params) H a (ns.map V.int)->sp w [.ref a] H (fun v _=>v=.bl true) fun _ _ _=>False)(hCX:∀(w:World) (H:Hp) (s:Shared) (e:Value) (s':Shared),CX w [] H s (fun _ _ _=>False) e s'->False):
  PySem.W.WalkO q loose XP YP l.row.toRowW d [] (fun f vs=>PySem.call f vs):=by
 refine Att.attach_call hn hdf fun w s₀ s₁ mg mb fa o pm cd doc a vs ns G Y ho hd hcd hmg hobj hints hlen hg=>?_
 have KX:=hY w _ Y
 obtain⟨fd,hb,hF⟩:=F w mg fa _ KX G.T.g hmg
 exact Zbx KX G.T.g G.T.b G.T.builtins G.T.nolimit hg hobj hints (Nat.le_trans hlen hn2) hr hF hb (fun H hO hS=>hsp w H a ns hlen hO hS) fun H e s'=>hCX w H s₁ e s'
def Vh (s:Stmt):Arguments:=match s with
 |.FunctionDef _ a _ _ _ _ _ _ _ _=>a
 |_=>{posonlyargs:=[],args:=[],vararg:=none,kwonlyargs:=[],kw_defaults:=[],kwarg:=none,defaults:=[]}
def Y5 (s:Stmt):List Stmt:=match s with
 |.FunctionDef _ _ b _ _ _ _ _ _ _=>b
 |_=>[]
def Zi (s:Stmt):Scope:=match s with
 |.FunctionDef _ _ _ _ _ _ sc _ _ _=>sc
 |_=>{kind:=.function,names:=[],isGenerator:=false,isCoroutine:=false}
abbrev Yd:Zeq:=fun _ _ _ _ _ _=>False
abbrev E0:XK:=fun _ _ _=>False
def Jh {X:Cx}:W4 Yd X E0:=fun _ _ _ _ _ _ _ h=>h.elim
structure Fun (K:PySem.W.Frag) (x qual:Str) (st:Stmt) (f:Addr) (fd:FuncData):Prop where
 ex:∃(oc:Value) (od:Option Addr) (kV doc pm:Value) (an:Option Addr) (cdv ct:Value) (osl:Array (Option Value)),
  fd=PySem.W.fnOf x qual (Vh st) (Y5 st) (Zi st) .none kV doc pm an cdv ct/\K.lookup f=some ⟨oc,od,.func fd,osl⟩/\PySem.W.codeIn K cdv qual=true
 kp:PySem.W.keepIn K (.ref f)=true
section
variable {P:Program}{w:World}{K:PySem.W.Frag}{mg:Str->Option Value}{base:Heap}
def Fun.ok {x qual:Str}{st:Stmt}{f:Addr}{fd:FuncData}{N ps:List Str}{k:Nat}{sp:Sp}(F:Fun K x qual st f fd)(S:FnScope N ps (Zi st))(len:∀vs H Q E,sp vs H Q E->vs.length=ps.length)(hbody:∀(cdv:Value) (A:Around) (outer:List Env) (s:Shared) (H:Hp) (vs:List V) (Q:VK) (E:XK),Room k (A.deeper (envOfC qual (Zi st) s.heap.objs.size f cdv))->sp vs H Q E ->
   ∃t,PSs (X5 Yd P w K mg base N qual (Zi st) f cdv A outer s H E).nox (Y5 st) t/\t {nx:=fun _ H'=>Q .non H',rt:=Q} (Xu N vs) H):FnOk P w K mg base Yd (k+1) f fd ps sp:=by
 obtain⟨oc,od,kV,doc,pm,an,cdv,ct,osl,rfl,lk,hcd⟩:=F.ex
 refine Zlp lk hcd S len fun A outer s H vs Q E hr hsp=>?_
 obtain⟨t,h,q⟩:=hbody cdv A outer s H vs Q E hr hsp
 exact⟨t,h.nox,q⟩
def Fun.binds {x qual:Str}{st:Stmt}{f:Addr}{fd:FuncData}{ps:List Str}(F:Fun K x qual st f fd)(h:∀(kV doc pm:Value) (an:Option Addr) (cdv ct:Value) (us:List Value),us.length=ps.length->bindArgs (PySem.W.fnOf x qual (Vh st) (Y5 st) (Zi st) .none kV doc pm an cdv ct) ⟨us,[]⟩=pure (ps.zip us)):Binds K fd ps []:=by
 obtain⟨oc,od,kV,doc,pm,an,cdv,ct,osl,rfl,lk,hcd⟩:=F.ex
 exact .all (h kV doc pm an cdv ct)
def Zby {x qual:Str}{st:Stmt}{f:Addr}{oc:Value}{od an:Option Addr}{osl:Array (Option Value)}{kV doc pm cdv ct:Value}(l:K.lookup f=some ⟨oc,od,.func (PySem.W.fnOf x qual (Vh st) (Y5 st) (Zi st) .none kV doc pm an cdv ct),osl⟩)(c:PySem.W.codeIn K cdv qual=true)(k:PySem.W.keepIn K (.ref f)=true):Fun K x qual st f (PySem.W.fnOf x qual (Vh st) (Y5 st) (Zi st) .none kV doc pm an cdv ct):=⟨⟨oc,od,kV,doc,pm,an,cdv,ct,osl,rfl,l,c⟩,k⟩
end
def Same (H H':Hp):Prop:=∀b o,H b=some o->H' b=some o
def Same.refl (H:Hp):Same H H:=fun _ _ h=>h
def Same.trans {H H1 H2:Hp}(a:Same H H1)(b:Same H1 H2):Same H H2:=fun c o h=>b c o (a c o h)
def Same.free {H H':Hp}(e:Same H H'){l:Addr}(h:H' l=Option.none):H l=Option.none:=by
 cases q:H l with
 |none=>rfl
 |some o=>
  rw[e l o q] at h
  cases h
def Same.seq {K:PySem.W.Frag}{H H':Hp}{a:Addr}{xs:List V}(e:Same H H')(h:SqL K H a xs):SqL K H' a xs:=by
 rcases h with(h|⟨o,h⟩)|h
 ·exact .inl (.inl (e _ _ h))
 ·exact .inl (.inr ⟨o,e _ _ h⟩)
 ·exact .inr h
end L2
namespace DL
open PySem PySem.Spec PyProof.Rows L2
inductive D where
 |non|bl (b:Bool)|int (i:Int)|str (x:Str)|tup (ds:List D)|lst (ds:List D)
structure XV where
 cls:Str
 ns:List Str
 ds:List D
inductive M (α:Type) where
 |ok (a:α)|ex (x:XV)|bad
def M.bind {α β:Type}(r:M α)(k:α->M β):M β:=match r with
 |.ok a=>k a
 |.ex x=>.ex x
 |.bad=>.bad
@[simp] theorem M.bind_ok {α β:Type}(a:α)(k:α->M β):(M.ok a).bind k=k a:=rfl
@[simp] theorem M.bind_ex {α β:Type}(x:XV)(k:α->M β):(M.ex x:M α).bind k=.ex x:=rfl
@[simp] theorem M.bind_bad {α β:Type}(k:α->M β):(M.bad:M α).bind k=.bad:=rfl
inductive S where
 |im (d:D)|ow (ds:List D)|od (kvs:List (List Yo×D))|dk (kvs:List (Yo×D))|xc (x:XV)|fn (x:Str)|ob (a:Addr) (c:Str) (r:List (Str×D))|fl (a:Addr) (hall:D) (sqs:List (List Yo×D))
def S.own:S->Bool
 |.im _=>false
 |.xc _=>false
 |.fn _=>false
 |.ob _ _ _=>false
 |.fl _ _ _=>false
 |_=>true
abbrev Zf:=List (Option S)
section
variable (K:PySem.W.Frag) (H:Hp)
mutual
def Rep:D->V->Prop
 |.non,v=>v=.non
 |.bl b,v=>v=.bl b
 |.int i,v=>v=.int i
 |.str x,v=>v=.str x
 |.tup ds,v=>∃a xs,v=.ref a/\H a=some (.tup xs)/\Reps ds xs
 |.lst ds,v=>∃a xs,v=.ref a/\SqL K H a xs/\Reps ds xs
def Reps:List D->List V->Prop
 |[],xs=>xs=[]
 |d::ds,xs=>∃x r,xs=x::r/\Rep d x/\Reps ds r
end
end
def RepKV (K:PySem.W.Frag)(H:Hp){κ:Type}:List (κ×D)->List (κ×V)->Prop:=Paired fun p q=>p.1=q.1/\Rep K H p.2 q.2
def S.at (K:PySem.W.Frag)(Hf H:Hp)(p:Addr):S->Prop
 |.im _=>False
 |.xc _=>False
 |.fn _=>False
 |.ob _ _ _=>False
 |.fl _ _ _=>False
 |.ow ds=>∃xs,H p=some (.lst xs)/\Reps K Hf ds xs
 |.od kvs=>∃ys,H p=some (.dT ys)/\RepKV K Hf kvs ys
 |.dk kvs=>∃ys,H p=some (.dK ys)/\RepKV K Hf kvs ys
def _root_.L2.Same.seqT {K:PySem.W.Frag}{H H':Hp}{a:Addr}{xs:List V}(e:Same H H')(h:SqT K H a xs):SqT K H' a xs:=by
 rcases h with(h|⟨o,h⟩)|h
 ·exact .inl (.inl (e _ _ h))
 ·exact .inl (.inr ⟨o,e _ _ h⟩)
 ·exact .inr h
section
variable {K:PySem.W.Frag}{H H':Hp}
mutual
theorem Rep.mono (e:Same H H'):∀{d:D}{v:V},Rep K H d v->Rep K H' d v
 |.non,_,h=>by unfold Rep at h ⊢;exact h
 |.bl _,_,h=>by unfold Rep at h ⊢;exact h
 |.int _,_,h=>by unfold Rep at h ⊢;exact h
 |.str _,_,h=>by unfold Rep at h ⊢;exact h
 |.tup ds,_,h=>by
  unfold Rep at h ⊢
  obtain⟨a,xs,e1,e2,e3⟩:=h
  exact⟨a,xs,e1,e _ _ e2,Reps.mono e e3⟩
 |.lst ds,_,h=>by
  unfold Rep at h ⊢
  obtain⟨a,xs,e1,e2,e3⟩:=h
  exact⟨a,xs,e1,e.seq e2,Reps.mono e e3⟩
theorem Reps.mono (e:Same H H'):∀{ds:List D}{xs:List V},Reps K H ds xs->Reps K H' ds xs
 |[],_,h=>by unfold Reps at h ⊢;exact h
 |d::ds,_,h=>by
  unfold Reps at h ⊢
  obtain⟨x,r,e1,e2,e3⟩:=h
  exact⟨x,r,e1,Rep.mono e e2,Reps.mono e e3⟩
end
def rep_non {v:V}:Rep K H .non v↔v=.non:=by unfold Rep;exact Iff.rfl
def rep_bl {b:Bool}{v:V}:Rep K H (.bl b) v↔v=.bl b:=by unfold Rep;exact Iff.rfl
def rep_int {i:Int}{v:V}:Rep K H (.int i) v↔v=.int i:=by unfold Rep;exact Iff.rfl
def rep_str {x:Str}{v:V}:Rep K H (.str x) v↔v=.str x:=by unfold Rep;exact Iff.rfl
def rep_tup {ds:List D}{v:V}:Rep K H (.tup ds) v↔∃a xs,v=.ref a/\H a=some (.tup xs)/\Reps K H ds xs:=by rw[Rep]
def Qc {ds:List D}{v:V}(h:Rep K H (.tup ds) v):∃a xs,v=.ref a/\SqT K H a xs/\Reps K H ds xs:=by
 obtain⟨a,xs,e1,e2,e3⟩:=rep_tup.mp h
 exact⟨a,xs,e1,SqT.of e2,e3⟩
def rep_lst {ds:List D}{v:V}:Rep K H (.lst ds) v↔∃a xs,v=.ref a/\SqL K H a xs/\Reps K H ds xs:=by rw[Rep]
def reps_nil {xs:List V}:Reps K H [] xs↔xs=[]:=by rw[Reps]
def reps_cons {d:D}{ds:List D}{xs:List V}:Reps K H (d::ds) xs↔∃x r,xs=x::r/\Rep K H d x/\Reps K H ds r:=by rw[Reps]
def Reps.nil:Reps K H [] []:=reps_nil.mpr rfl
def Reps.cons {d:D}{ds:List D}{x:V}{xs:List V}(h:Rep K H d x)(t:Reps K H ds xs):Reps K H (d::ds) (x::xs):=reps_cons.mpr ⟨x,xs,rfl,h,t⟩
theorem Reps.length:∀{ds:List D}{xs:List V},Reps K H ds xs->ds.length=xs.length
 |[],_,h=>by rw[reps_nil.mp h];rfl
 |d::ds,_,h=>by
  obtain⟨x,r,rfl,_,t⟩:=reps_cons.mp h
  rw[List.length_cons,List.length_cons,Reps.length t]
theorem Reps.get:∀{ds:List D}{xs:List V}{i:Nat}{d:D},Reps K H ds xs->ds[i]?=some d->∃x,xs[i]?=some x/\Rep K H d x
 |[],_,_,_,_,e=>by simp at e
 |_::ds,_,0,_,h,e=>by
  obtain⟨x,r,rfl,q,t⟩:=reps_cons.mp h
  simp at e;subst e;exact⟨x,rfl,q⟩
 |_::ds,_,i+1,_,h,e=>by
  obtain⟨x,r,rfl,q,t⟩:=reps_cons.mp h
  obtain⟨y,e1,e2⟩:=Reps.get (i:=i) t (by simpa using e)
  exact⟨y,by simpa using e1,e2⟩
theorem Reps.append:∀{ds es:List D}{xs ys:List V},Reps K H ds xs->Reps K H es ys->Reps K H (ds++es) (xs++ys)
 |[],_,_,_,h,t=>by rw[reps_nil.mp h];exact t
 |_::ds,_,_,_,h,t=>by
  obtain⟨x,r,rfl,q,u⟩:=reps_cons.mp h
  exact .cons q (Reps.append u t)
theorem Reps.take:∀{ds:List D}{xs:List V} (n:Nat),Reps K H ds xs->Reps K H (ds.take n) (xs.take n)
 |_,_,0,_=>by simpa using Reps.nil
 |[],_,n+1,h=>by rw[reps_nil.mp h];simpa using Reps.nil
 |_::ds,_,n+1,h=>by
  obtain⟨x,r,rfl,q,u⟩:=reps_cons.mp h
  exact .cons q (Reps.take n u)
theorem Reps.drop:∀{ds:List D}{xs:List V} (n:Nat),Reps K H ds xs->Reps K H (ds.drop n) (xs.drop n)
 |_,_,0,h=>by simpa using h
 |[],_,n+1,h=>by rw[reps_nil.mp h];simpa using Reps.nil
 |_::ds,_,n+1,h=>by
  obtain⟨x,r,rfl,q,u⟩:=reps_cons.mp h
  exact Reps.drop n u
def Reps.none_of {ds:List D}{xs:List V}{i:Nat}(h:Reps K H ds xs)(e:ds[i]?=none):xs[i]?=none:=by
 have:=h.length
 rw[List.getElem?_eq_none_iff] at e ⊢
 lia
end
theorem RepKV.mono {K:PySem.W.Frag}{H H':Hp}(e:Same H H'){κ:Type}{a:List (κ×D)}{b:List (κ×V)}(r:RepKV K H a b):RepKV K H' a b:=Paired.mapP r fun _ _ q=>⟨q.1,q.2.mono e⟩
def Fx {K:PySem.W.Frag}{Hf H:Hp}{p:Addr}{s:S}(h:S.at K Hf H p s):∃o,H p=some o:=by
 cases s with
 |im d=>exact h.elim
 |xc x=>exact h.elim
 |fn x=>exact h.elim
 |ob a c r=>exact h.elim
 |fl a g q=>exact h.elim
 |ow ds=>obtain⟨xs,e,_⟩:=h;exact⟨_,e⟩
 |od kvs=>obtain⟨ys,e,_⟩:=h;exact⟨_,e⟩
 |dk kvs=>obtain⟨ys,e,_⟩:=h;exact⟨_,e⟩
def Wq {K:PySem.W.Frag}{Hf Hf' H H':Hp}{p:Addr}{s:S}(h:S.at K Hf H p s)(e:Same Hf Hf')(q:∀o,H p=some o->H' p=some o):S.at K Hf' H' p s:=by
 cases s with
 |im d=>exact h.elim
 |xc x=>exact h.elim
 |fn x=>exact h.elim
 |ob a c r=>exact h.elim
 |fl a g q=>exact h.elim
 |ow ds=>obtain⟨xs,e1,e2⟩:=h;exact⟨xs,q _ e1,e2.mono e⟩
 |od kvs=>obtain⟨ys,e1,e2⟩:=h;exact⟨ys,q _ e1,e2.mono e⟩
 |dk kvs=>obtain⟨ys,e1,e2⟩:=h;exact⟨ys,q _ e1,e2.mono e⟩
def XO (a:Addr)(C:Addr)(dx:Option Addr):HO:=.ext fun h=>∃oe vs,h.get? a=some oe/\oe.cls=.ref C/\oe.dict=dx/\oe.data=.fields vs
def XF (Hf:Hp)(ns:List Str)(xs:List V):Option Addr->Prop
 |none=>ns=[]/\xs=[]
 |some dx=>Hf dx=some (.xd (ns.zip xs))/\ns.length=xs.length
def XF.mono {H H':Hp}(e:Same H H'){ns:List Str}{xs:List V}:∀{dx:Option Addr},XF H ns xs dx->XF H' ns xs dx
 |none,h=>h
 |some _,h=>⟨e _ _ h.1,h.2⟩
def RepE (K:PySem.W.Frag)(Hf:Hp)(x:XV)(v:V):Prop:=
 ∃a C dx xs,v=.ref a/\Hf a=some (XO a C dx)/\PySem.W.nsIn K mainGlobals x.cls=some (some (.ref C))/\XF Hf x.ns xs dx/\Reps K Hf x.ds xs
theorem RepE.mono {K:PySem.W.Frag}{H H':Hp}(e:Same H H'){x:XV}{v:V}(h:RepE K H x v):RepE K H' x v:=by
 obtain⟨a,C,dx,xs,e1,e2,e3,e4,e5⟩:=h
 exact⟨a,C,dx,xs,e1,e _ _ e2,e3,e4.mono e,e5.mono e⟩
def RepO (K:PySem.W.Frag)(Hf:Hp)(a:Addr)(c:Str)(r:List (Str×D))(v:V):Prop:=∃C dx gs,v=.ref a/\PySem.W.nsIn K mainGlobals c=some (some (.ref C))/\Hf a=some (.ins C dx gs)/\RepKV K Hf r gs
theorem RepO.mono {K:PySem.W.Frag}{H H':Hp}(e:Same H H'){a:Addr}{c:Str}{r:List (Str×D)}{v:V}(h:RepO K H a c r v):RepO K H' a c r v:=by
 obtain⟨C,dx,gs,e1,e2,e3,e4⟩:=h
 exact⟨C,dx,gs,e1,e2,e _ _ e3,e4.mono e⟩
structure FlG (K:PySem.W.Frag) (Hf:Hp) (g:D) (d q:Addr) (gs:List (Str×V)):Prop where
 hall:∃v,gs.lookup ("hall":Str)=some v/\Rep K Hf g v
 sq:gs.lookup ("by_square":Str)=some (.ref d)
 kn:gs.lookup ("known_faces":Str)=some (.ref q)
 m1:gs.lookup ("people_at":Str)=none
 m2:gs.lookup ("faces_at":Str)=none
theorem FlG.mono {K:PySem.W.Frag}{H H':Hp}(e:Same H H'){g:D}{d q:Addr}{gs:List (Str×V)}(h:FlG K H g d q gs):FlG K H' g d q gs:=⟨let ⟨v,e1,e2⟩:=h.hall;⟨v,e1,e2.mono e⟩,h.sq,h.kn,h.m1,h.m2⟩
def RepFl (K:PySem.W.Frag)(Hf:Hp)(a:Addr)(g:D)(q:List (List Yo×D))(v:V):Prop:=∃C dx gs d k ys,v=.ref a/\PySem.W.nsIn K mainGlobals "Floor"=some (some (.ref C))/\Hf a=some (.ins C dx gs)/\FlG K Hf g d k gs/\Hf d=some (.dT ys)/\RepKV K Hf q ys
theorem RepFl.mono {K:PySem.W.Frag}{H H':Hp}(e:Same H H'){a:Addr}{g:D}{q:List (List Yo×D)}{v:V}(h:RepFl K H a g q v):RepFl K H' a g q v:=by
 obtain⟨C,dx,gs,d,k,ys,e1,e2,e3,e4,e5,e6⟩:=h
 exact⟨C,dx,gs,d,k,ys,e1,e2,e _ _ e3,e4.mono e,e _ _ e5,e6.mono e⟩
def RepS (K:PySem.W.Frag)(Hf:Hp):S->V->Prop
 |.im d,v=>Rep K Hf d v
 |.xc x,v=>RepE K Hf x v
 |.fn x,v=>∃a,v=.ref a/\PySem.W.nsIn K mainGlobals x=some (some (.ref a))
 |.ob a c r,v=>RepO K Hf a c r v
 |.fl a g q,v=>RepFl K Hf a g q v
 |_,_=>True
theorem RepS.mono {K:PySem.W.Frag}{H H':Hp}(e:Same H H'){t:S}{v:V}(h:RepS K H t v):RepS K H' t v:=by
 cases t with
 |im d=>exact Rep.mono e h
 |xc x=>exact RepE.mono e h
 |fn x=>exact h
 |ob a c r=>exact RepO.mono e h
 |fl a g q=>exact RepFl.mono e h
 |_=>trivial
def Lv (H:Hp)(a:Addr):Prop:=∃o,H a=some o/\∀xs,o≠.tup xs
def Lv.nn {H:Hp}{a:Addr}(h:Lv H a):H a≠none:=by
 obtain⟨o,e,_⟩:=h
 rw[e];simp
theorem Lv.lst {H:Hp}{a:Addr}{xs:List V}(e:H a=some (.lst xs)):Lv H a:=⟨_,e,fun _ q=>by cases q⟩
def _root_.L2.Same.lv {H H':Hp}(e:Same H H'){a:Addr}(h:Lv H a):Lv H' a:=let ⟨o,q,n⟩:=h;⟨o,e a o q,n⟩
def Zhp {K:PySem.W.Frag}{Hf H:Hp}{p:Addr}{s:S}(h:S.at K Hf H p s):Lv H p:=by
 cases s with
 |im d=>exact h.elim
 |xc x=>exact h.elim
 |fn x=>exact h.elim
 |ob a c r=>exact h.elim
 |fl a g q=>exact h.elim
 |ow ds=>obtain⟨xs,e,_⟩:=h;exact⟨_,e,fun _ q=>by cases q⟩
 |od kvs=>obtain⟨xs,e,_⟩:=h;exact⟨_,e,fun _ q=>by cases q⟩
 |dk kvs=>obtain⟨xs,e,_⟩:=h;exact⟨_,e,fun _ q=>by cases q⟩
structure Gr (Hf H Hf' H':Hp):Prop where
 fz:Same Hf Hf'
 sub:Same Hf' H'
 all:Same H H'
 ban:∀a,Lv H a->Hf a=none->Hf' a=none
theorem Gr.refl {Hf H:Hp}(h:Same Hf H):Gr Hf H Hf H:=⟨Same.refl _,h,Same.refl _,fun _ _ e=>e⟩
theorem Gr.trans {Hf H Hf1 H1 Hf2 H2:Hp}(a:Gr Hf H Hf1 H1)(b:Gr Hf1 H1 Hf2 H2):Gr Hf H Hf2 H2:=
 ⟨a.fz.trans b.fz,b.sub,a.all.trans b.all,fun c h e=>b.ban c (a.all.lv h) (a.ban c h e)⟩
def Qa {H:Hp}{p:Addr}(h:H p=none)(o:HO):Same H (upd H p o):=fun b u q=>by rw[Zm (Zw q h)];exact q
theorem _root_.L2.Same.upd {Hf H:Hp}(e:Same Hf H)(p:Addr)(o:HO):Same (L2.upd Hf p o) (L2.upd H p o):=fun b u q=>by
 by_cases hb:b=p
 ·subst hb;rw[Zo] at q ⊢;exact q
 ·rw[Zm hb] at q ⊢;exact e b u q
def Gr.alloc {Hf H:Hp}(e:Same Hf H){p:Addr}(h:H p=none)(o:HO):Gr Hf H (upd Hf p o) (upd H p o):=
 ⟨Qa (e.free h) o,Same.upd e p o,Qa h o,fun a ha ea=>by
  have:a≠p:=fun z=>ha.nn (z▸h)
  rw[Zm this];exact ea⟩
structure SR (K:PySem.W.Frag) (H0:Hp) (B:Addr->Prop) (Hf:Hp) (sd:Zf) (σ:L2.St) (H:Hp):Prop where
 sub:Same Hf H
 all:Same H0 H
 ban:∀a,B a->Hf a=none
 bt:∀a,B a->Lv H0 a
 len:sd.length=σ.length
 imS:∀(i:Nat) (t:S),sd[i]?=some (some t)->t.own=false->∃v,σ[i]?=some (some v)/\RepS K Hf t v
 ow:∀(i:Nat) (t:S),sd[i]?=some (some t)->t.own=true->∃p,σ[i]?=some (some (.ref p))/\H0 p=none/\Hf p=none/\S.at K Hf H p t
 sep:∀(i j:Nat) (t u:S) (p:Addr),i≠j->sd[i]?=some (some t)->t.own=true->sd[j]?=some (some u)->u.own=true->σ[i]?=some (some (.ref p))->σ[j]?=some (some (.ref p))->False
section
variable {K:PySem.W.Frag}{H0 Hf Hf' H H':Hp}{B:Addr->Prop}{sd:Zf}{σ:L2.St}
theorem SR.im (r:SR K H0 B Hf sd σ H):∀(i:Nat) (d:D),sd[i]?=some (some (.im d))->∃v,σ[i]?=some (some v)/\Rep K Hf d v:=fun i _ e=>r.imS i _ e rfl
def SR.gr (r:SR K H0 B Hf sd σ H)(g:Gr Hf H Hf' H'):SR K H0 B Hf' sd σ H' where
 sub:=g.sub
 all:=r.all.trans g.all
 ban:=fun a h=>g.ban a (r.all.lv (r.bt a h)) (r.ban a h)
 bt:=r.bt
 len:=r.len
 imS:=fun i d e z=>let ⟨v,e1,e2⟩:=r.imS i d e z;⟨v,e1,e2.mono g.fz⟩
 ow:=fun i t e ho=>by
  obtain⟨p,e1,e2,e3,e4⟩:=r.ow i t e ho
  obtain⟨o,eo⟩:=Fx e4
  exact⟨p,e1,e2,g.ban p (Zhp e4) e3,Wq e4 g.fz fun o h=>g.all _ _ h⟩
 sep:=r.sep
def SR.set_st (r:SR K H0 B Hf sd σ H)(i:Nat){d:S}{v:V}(hd:d.own=false)(h:RepS K Hf d v):SR K H0 B Hf (sd.set i (some d)) (σ.set i (some v)) H where
 sub:=r.sub
 all:=r.all
 ban:=r.ban
 bt:=r.bt
 len:=by rw[List.length_set,List.length_set];exact r.len
 imS:=fun j d' e z=>by
  by_cases hj:i=j
  ·subst hj
   have hi:i<sd.length:=by
    have:=(List.getElem?_eq_some_iff.mp e).1;simpa using this
   rw[List.getElem?_set_self hi] at e
   cases e
   exact⟨v,by rw[List.getElem?_set_self (by rw[<-r.len];exact hi)],h⟩
  ·rw[List.getElem?_set_ne hj] at e ⊢
   exact r.imS j d' e z
 ow:=fun j t e ho=>by
  by_cases hj:i=j
  ·subst hj
   have hi:i<sd.length:=by
    have:=(List.getElem?_eq_some_iff.mp e).1;simpa using this
   rw[List.getElem?_set_self hi] at e
   cases e
   rw[hd] at ho;cases ho
  ·rw[List.getElem?_set_ne hj] at e ⊢
   exact r.ow j t e ho
 sep:=fun j k t u p hjk e1 o1 e2 o2 e3 e4=>by
  have ne:∀{l:Nat}{fs:S},(sd.set i (some d))[l]?=some (some fs)->fs.own=true->i≠l:=fun {l fs} e o z=>by
   subst z
   have hi:i<sd.length:=by
    have:=(List.getElem?_eq_some_iff.mp e).1;simpa using this
   rw[List.getElem?_set_self hi] at e
   cases e
   rw[hd] at o;cases o
  have n1:=ne e1 o1
  have n2:=ne e2 o2
  rw[List.getElem?_set_ne n1] at e1 e3
  rw[List.getElem?_set_ne n2] at e2 e4
  exact r.sep j k t u p hjk e1 o1 e2 o2 e3 e4
def SR.set_im (r:SR K H0 B Hf sd σ H)(i:Nat){d:D}{v:V}(h:Rep K Hf d v):SR K H0 B Hf (sd.set i (some (.im d))) (σ.set i (some v)) H:=r.set_st (d:=.im d) i rfl h
def SR.change (r:SR K H0 B Hf sd σ H){i:Nat}{p:Addr}{o:HO}{t u:S}(ht:sd[i]?=some (some t))(ot:t.own=true)(hi:σ[i]?=some (some (.ref p)))(ou:u.own=true)(h:S.at K Hf (upd H p o) p u):SR K H0 B Hf (sd.set i (some u)) σ (upd H p o):=by
 obtain⟨p',z1,z2,z3,z4⟩:=r.ow i t ht ot
 rw[hi] at z1
 cases z1
 have hl:i<sd.length:=(List.getElem?_eq_some_iff.mp ht).1
 have back:∀{j:Nat}{w:S},i≠j->(sd.set i (some u))[j]?=some (some w)->sd[j]?=some (some w):=fun {j w} n e=>by rwa[List.getElem?_set_ne n] at e
 refine⟨fun b v q=>?_,fun b v q=>?_,r.ban,r.bt,by rw[List.length_set];exact r.len,fun j d e z=>?_,fun j w e ow=>?_,fun j k w x q hjk e1 o1 e2 o2 e3 e4=>?_⟩
 ·rw[Zm (Zw q z3)];exact r.sub b v q
 ·rw[Zm (Zw q z2)];exact r.all b v q
 ·by_cases n:i=j
  ·subst n
   rw[List.getElem?_set_self hl] at e
   cases e
   rw[ou] at z;cases z
  ·exact r.imS j d (back n e) z
 ·by_cases n:i=j
  ·subst n
   rw[List.getElem?_set_self hl] at e
   cases e
   exact⟨p,hi,z2,z3,h⟩
  ·obtain⟨q,e1,e2,e3,e4⟩:=r.ow j w (back n e) ow
   refine⟨q,e1,e2,e3,Wq e4 (Same.refl _) fun o' h'=>?_⟩
   have:q≠p:=fun z=>by
    subst z
    exact r.sep i j t w q n ht ot (back n e) ow hi e1
   rw[Zm this];exact h'
 ·have get:∀{l:Nat}{w:S},(sd.set i (some u))[l]?=some (some w)->w.own=true->∃w',sd[l]?=some (some w')/\w'.own=true:=fun {l w} e ow=>by
   by_cases n:i=l
   ·subst n;exact⟨t,ht,ot⟩
   ·exact⟨w,back n e,ow⟩
  obtain⟨w',a1,a2⟩:=get e1 o1
  obtain⟨x',b1,b2⟩:=get e2 o2
  exact r.sep j k w' x' q hjk a1 a2 b1 b2 e3 e4
def SR.freeze (r:SR K H0 B Hf sd σ H){i:Nat}{ds:List D}(ht:sd[i]?=some (some (.ow ds))):∃Hf',Same Hf Hf'/\SR K H0 B Hf' (sd.set i (some (.im (.lst ds)))) σ H:=by
 obtain⟨p,z1,z2,z3,xs,z4,z5⟩:=r.ow i _ ht rfl
 have hl:i<sd.length:=(List.getElem?_eq_some_iff.mp ht).1
 have back:∀{j:Nat}{w:S},i≠j->(sd.set i (some (S.im (.lst ds))))[j]?=some (some w)->sd[j]?=some (some w):=fun {j w} n e=>by rwa[List.getElem?_set_ne n] at e
 have sm:=Qa z3 (.lst xs)
 refine⟨upd Hf p (.lst xs),sm,fun b v q=>?_,r.all,fun a h=>?_,r.bt,by rw[List.length_set];exact r.len,fun j d e z=>?_,fun j w e ow=>?_,fun j k w x q hjk e1 o1 e2 o2 e3 e4=>?_⟩
 ·by_cases hb:b=p
  ·subst hb;rw[Zo] at q;rw[z4];exact q
  ·rw[Zm hb] at q;exact r.sub b v q
 ·have:a≠p:=fun z=>(r.bt a h).nn (z▸z2)
  rw[Zm this];exact r.ban a h
 ·by_cases n:i=j
  ·subst n
   rw[List.getElem?_set_self hl] at e
   cases e
   exact⟨_,z1,(rep_lst.mpr ⟨p,xs,rfl,SqL.of Zo,z5.mono sm⟩:Rep K _ (.lst ds) _)⟩
  ·obtain⟨v,e1,e2⟩:=r.imS j d (back n e) z
   exact⟨v,e1,e2.mono sm⟩
 ·by_cases n:i=j
  ·subst n
   rw[List.getElem?_set_self hl] at e
   cases e
   cases ow
  ·obtain⟨q,e1,e2,e3,e4⟩:=r.ow j w (back n e) ow
   refine⟨q,e1,e2,?_,Wq e4 sm fun o' h'=>h'⟩
   have:q≠p:=fun z=>by
    subst z
    exact r.sep i j _ w q n ht rfl (back n e) ow z1 e1
   rw[Zm this];exact e3
 ·have ne:∀{l:Nat}{w:S},(sd.set i (some (S.im (.lst ds))))[l]?=some (some w)->w.own=true->i≠l:=fun {l w} e o z=>by
   subst z
   rw[List.getElem?_set_self hl] at e
   cases e
   cases o
  exact r.sep j k w x q hjk (back (ne e1 o1) e1) o1 (back (ne e2 o2) e2) o2 e3 e4
end
def Zfk (K:PySem.W.Frag)(Hf _H:Hp)(x:XV)(c:Value)(dx:Option Addr):Prop:=
 ∃C xs,c=.ref C/\PySem.W.nsIn K mainGlobals x.cls=some (some (.ref C))/\XF Hf x.ns xs dx/\Reps K Hf x.ds xs
def Po (K:PySem.W.Frag)(E:XK){α β:Type}(R:Hp->Hp->α->β->Prop)(Hf H:Hp)(r:M α)(Q:β->Hp->Prop):Prop:=match r with
 |.ok a=>∀b Hf' H',Gr Hf H Hf' H'->R Hf' H' a b->Q b H'
 |.ex x=>∀c dx Hf' H',Gr Hf H Hf' H'->Zfk K Hf' H' x c dx->E c dx H'
 |.bad=>False
def rV (K:PySem.W.Frag)(Hf _H:Hp)(d:D)(v:V):Prop:=Rep K Hf d v
def rA (K:PySem.W.Frag)(Hf _H:Hp)(ds:List D)(vs:List V):Prop:=Reps K Hf ds vs
def rQ {α:Type}(_Hf _H:Hp)(a b:α):Prop:=a=b
section
variable {K:PySem.W.Frag}{E:XK}{α β γ δ:Type}{R:Hp->Hp->α->β->Prop}{T:Hp->Hp->γ->δ->Prop}{Hf H Hf1 H1:Hp}
def Po.weak {r:M α}{Q:β->Hp->Prop}(g:Gr Hf H Hf1 H1)(h:Po K E R Hf H r Q):Po K E R Hf1 H1 r Q:=by
 cases r with
 |ok a=>exact fun b Hf' H' g' q=>h b Hf' H' (g.trans g') q
 |ex x=>exact fun c dx Hf' H' g' q=>h c dx Hf' H' (g.trans g') q
 |bad=>exact h
theorem Po.bind {r:M α}{k:α->M γ}{Q:δ->Hp->Prop}{Q1:β->Hp->Prop}(h:Po K E T Hf H (r.bind k) Q)(s:∀a b Hf1 H1,r=.ok a->Gr Hf H Hf1 H1->R Hf1 H1 a b->Po K E T Hf1 H1 (k a) Q->Q1 b H1):Po K E R Hf H r Q1:=by
 cases r with
 |ok a=>exact fun b Hf' H' g q=>s a b Hf' H' rfl g q (Po.weak g h)
 |ex x=>exact h
 |bad=>exact h
def Po.ret {a:α}{b:β}{Q:β->Hp->Prop}(e:Same Hf H)(h:Po K E R Hf H (.ok a) Q)(q:R Hf H a b):Q b H:=h b Hf H (Gr.refl e) q
end
def Y0 (X:Cx)(E:XK)(e:Expr)(f:Zf->M D):Prop:=
 ∃t:TE,PE X e t/\∀(H0:Hp) (B:Addr->Prop) (Hf:Hp) (sd:Zf) (σ:L2.St) (H:Hp) (Q:VK),SR X.K H0 B Hf sd σ H->Po X.K E (rV X.K) Hf H (f sd) Q->t σ H Q
def T3 (X:Cx)(E:XK)(es:List Expr)(f:Zf->M (List D)):Prop:=
 ∃t:TA,PA X es t/\∀(H0:Hp) (B:Addr->Prop) (Hf:Hp) (sd:Zf) (σ:L2.St) (H:Hp) (Q:List V->Hp->Prop),SR X.K H0 B Hf sd σ H->Po X.K E (rA X.K) Hf H (f sd) Q->t σ H Q
def Lz (X:Cx)(E:XK)(e:Expr)(f:Zf->M Bool):Prop:=
 ∃t:TT,PT X e t/\∀(H0:Hp) (B:Addr->Prop) (Hf:Hp) (sd:Zf) (σ:L2.St) (H:Hp) (Q:Bool->Hp->Prop),SR X.K H0 B Hf sd σ H->Po X.K E rQ Hf H (f sd) Q->t σ H Q
def PWd (X:Cx)(E:XK)(e:Expr)(f:Zf->M Bool):Prop:=
 ∃t:TT,PW X e t/\∀(H0:Hp) (B:Addr->Prop) (Hf:Hp) (sd:Zf) (σ:L2.St) (H:Hp) (Q:Bool->Hp->Prop),SR X.K H0 B Hf sd σ H->Po X.K E rQ Hf H (f sd) Q->t σ H Q
def Zm9 (X:Cx)(E:XK)(e:Option Expr)(f:Zf->M (Option Int)):Prop:=
 ∃t:TO,PO X e t/\∀(H0:Hp) (B:Addr->Prop) (Hf:Hp) (sd:Zf) (σ:L2.St) (H:Hp) (Q:Option Int->Hp->Prop),SR X.K H0 B Hf sd σ H->Po X.K E rQ Hf H (f sd) Q->t σ H Q
inductive O where
 |nx (sd:Zf)|rt (s:S)|bk (sd:Zf)|ct (sd:Zf)
structure Fin' (H0:Hp) (B:Addr->Prop) (Hf H:Hp):Prop where
 sub:Same Hf H
 all:Same H0 H
 ban:∀a,B a->Hf a=none
def RS (K:PySem.W.Frag)(H0 Hf H:Hp):S->V->Prop
 |.im d,v=>Rep K Hf d v
 |.xc x,v=>RepE K Hf x v
 |t,v=>∃p,v=.ref p/\H0 p=none/\Hf p=none/\S.at K Hf H p t
def PoS (K:PySem.W.Frag)(E:XK)(H0:Hp)(B:Addr->Prop)(Hf:Hp)(r:M O)(D:Ends):Prop:=match r with
 |.ok (.nx sd')=>∀σ' Hf' H',Same Hf Hf'->SR K H0 B Hf' sd' σ' H'->D.nx σ' H'
 |.ok (.bk sd')=>∀σ' Hf' H',Same Hf Hf'->SR K H0 B Hf' sd' σ' H'->D.bk σ' H'
 |.ok (.ct sd')=>∀σ' Hf' H',Same Hf Hf'->SR K H0 B Hf' sd' σ' H'->D.ct σ' H'
 |.ok (.rt s)=>∀v Hf' H',Same Hf Hf'->Fin' H0 B Hf' H'->RS K H0 Hf' H' s v->D.rt v H'
 |.ex x=>∀c dx Hf' H',Same Hf Hf'->Fin' H0 B Hf' H'->Zfk K Hf' H' x c dx->E c dx H'
 |.bad=>False
def SR.fin {K:PySem.W.Frag}{H0 Hf H:Hp}{B:Addr->Prop}{sd:Zf}{σ:L2.St}(r:SR K H0 B Hf sd σ H):Fin' H0 B Hf H:=⟨r.sub,r.all,r.ban⟩
def N8 (X:Cx)(E:XK)(st:Stmt)(f:Zf->M O):Prop:=
 ∃t:TS,PS X st t/\∀(H0:Hp) (B:Addr->Prop) (Hf:Hp) (sd:Zf) (σ:L2.St) (H:Hp) (D:Ends),SR X.K H0 B Hf sd σ H->PoS X.K E H0 B Hf (f sd) D->t D σ H
def Gs (X:Cx)(E:XK)(st:List Stmt)(f:Zf->M O):Prop:=
 ∃t:TS,PSs X st t/\∀(H0:Hp) (B:Addr->Prop) (Hf:Hp) (sd:Zf) (σ:L2.St) (H:Hp) (D:Ends),SR X.K H0 B Hf sd σ H->PoS X.K E H0 B Hf (f sd) D->t D σ H
def PoS.weak {K:PySem.W.Frag}{E:XK}{H0 Hf Hf1:Hp}{B:Addr->Prop}{r:M O}{D:Ends}(g:Same Hf Hf1)(h:PoS K E H0 B Hf r D):PoS K E H0 B Hf1 r D:=by
 cases r with
 |ok o=>
  cases o with
  |nx sd=>exact fun σ' Hf' H' e q=>h σ' Hf' H' (g.trans e) q
  |bk sd=>exact fun σ' Hf' H' e q=>h σ' Hf' H' (g.trans e) q
  |ct sd=>exact fun σ' Hf' H' e q=>h σ' Hf' H' (g.trans e) q
  |rt s=>exact fun v Hf' H' e q=>h v Hf' H' (g.trans e) q
 |ex x=>exact fun c dx Hf' H' e q=>h c dx Hf' H' (g.trans e) q
 |bad=>exact h
theorem PoS.bind {K:PySem.W.Frag}{E:XK}{H0 Hf H:Hp}{B:Addr->Prop}{sd:Zf}{σ:L2.St}{α β:Type}{R:Hp->Hp->α->β->Prop}{r:M α}{k:α->M O}{D:Ends}{Q1:β->Hp->Prop}(sr:SR K H0 B Hf sd σ H)(h:PoS K E H0 B Hf (r.bind k) D)(s:∀a b Hf1 H1,r=.ok a->Gr Hf H Hf1 H1->SR K H0 B Hf1 sd σ H1->R Hf1 H1 a b->PoS K E H0 B Hf1 (k a) D->Q1 b H1):Po K E R Hf H r Q1:=by
 cases r with
 |ok a=>exact fun b Hf' H' g q=>s a b Hf' H' rfl g (sr.gr g) q (PoS.weak g.fz h)
 |ex x=>exact fun c dx Hf' H' g q=>h c dx Hf' H' g.fz (sr.gr g).fin q
 |bad=>exact h
section
variable {X:Cx}{E:XK}{pos:Pos}{a b:Expr}
def Zd (i:Nat)(sd:Zf):M D:=match sd[i]? with
 |some (some (.im d))=>.ok d
 |_=>.bad
def Zb (i:Nat){x:Str}(hN:X.N[i]?=some x:=by rfl)(hv:Rz X.env.scope x:=by trivial) (hd:(x==("__debug__":Str))=false:=by decide)
  (hcd:(x==("__classdict__":Str))=false:=by decide):Y0 X E (.Name x pos) (Zd i):=by
 refine⟨_,Z9 hN hv hd hcd,fun H0 B Hf sd σ H Q sr h=>?_⟩
 unfold Zd at h
 split at h
 ·rename_i d e
  obtain⟨v,e1,e2⟩:=sr.im i d e
  exact⟨v,e1,Po.ret sr.sub h e2⟩
 ·exact h.elim
def eC (d:D)(_:Zf):M D:=.ok d
def Zg {i:Int}{j}:Y0 X E (.Constant (.int i) j pos) (eC (.int i)):=⟨_,Zba,fun _ _ _ _ _ _ _ sr h=>Po.ret sr.sub h (rep_int.mpr rfl)⟩
def Gu {i:Bool}{j}:Y0 X E (.Constant (.bool i) j pos) (eC (.bl i)):=⟨_,Zk7,fun _ _ _ _ _ _ _ sr h=>Po.ret sr.sub h (rep_bl.mpr rfl)⟩
def X6 {j}:Y0 X E (.Constant .none j pos) (eC .non):=⟨_,Zie,fun _ _ _ _ _ _ _ sr h=>Po.ret sr.sub h (rep_non.mpr rfl)⟩
def Qt {x}{j}:Y0 X E (.Constant (.str x) j pos) (eC (.str x)):=⟨_,Zif,fun _ _ _ _ _ _ _ sr h=>Po.ret sr.sub h (rep_str.mpr rfl)⟩
def N9 (X:Cx)(E:XK)(f:Value->Value->Sem Value)(g:D->D->M D):Prop:=
 ∃r:R2,OpR X f r/\∀(Hf H:Hp) (x y:V) (dx dy:D) (Q:VK),Same Hf H->Rep X.K Hf dx x->Rep X.K Hf dy y->Po X.K E (rV X.K) Hf H (g dx dy) Q->r x y H Q
def Zn (g:D->D->M D)(fa fb:Zf->M D)(sd:Zf):M D:=(fa sd).bind fun x=>(fb sd).bind fun y=>g x y
def two {fa fb:Zf->M D}{g:D->D->M D}{ta tb:TE}{r:R2}{H0:Hp}{B:Addr->Prop}{Hf:Hp}{sd:Zf}{σ:L2.St}{H:Hp}{Q:VK}(ha:∀(H0:Hp) (B:Addr->Prop) (Hf:Hp) (sd:Zf) (σ:L2.St) (H:Hp) (Q:VK),SR X.K H0 B Hf sd σ H->Po X.K E (rV X.K) Hf H (fa sd) Q->ta σ H Q)(hb:∀(H0:Hp) (B:Addr->Prop) (Hf:Hp) (sd:Zf) (σ:L2.St) (H:Hp) (Q:VK),SR X.K H0 B Hf sd σ H->Po X.K E (rV X.K) Hf H (fb sd) Q->tb σ H Q)(hr:∀(Hf H:Hp) (x y:V) (dx dy:D) (Q:VK),Same Hf H->Rep X.K Hf dx x->Rep X.K Hf dy y->Po X.K E (rV X.K) Hf H (g dx dy) Q->r x y H Q)(sr:SR X.K H0 B Hf sd σ H)(h:Po X.K E (rV X.K) Hf H (Zn g fa fb sd) Q):Zky r ta tb σ H Q:=by
 refine ha H0 B Hf sd σ H _ sr (Po.bind h fun dx x Hf1 H1 _ g1 rx h1=>?_)
 have sr1:=sr.gr g1
 refine hb H0 B Hf1 sd σ H1 _ sr1 (Po.bind h1 fun dy y Hf2 H2 _ g2 ry h2=>?_)
 exact hr Hf2 H2 x y dx dy Q g2.sub (Rep.mono g2.fz rx) ry h2
def Zr {op:Operator}{g:D->D->M D}{fa fb:Zf->M D}(ho:N9 X E (binaryOp op) g)(ha:Y0 X E a fa)(hb:Y0 X E b fb):Y0 X E (.BinOp a op b pos) (Zn g fa fb):=by
 obtain⟨r,hr,qr⟩:=ho
 obtain⟨ta,pa,qa⟩:=ha
 obtain⟨tb,pb,qb⟩:=hb
 exact⟨_,Zbd hr pa pb,fun H0 B Hf sd σ H Q sr h=>two qa qb qr sr h⟩
def X7 {op:CmpOp}{g:D->D->M D}{fa fb:Zf->M D}(ho:N9 X E (compareOp op) g)(ha:Y0 X E a fa)(hb:Y0 X E b fb)(hm:behindInMarks op b=false):Y0 X E (.Compare a [op] [b] pos) (Zn g fa fb):=by
 obtain⟨r,hr,qr⟩:=ho
 obtain⟨ta,pa,qa⟩:=ha
 obtain⟨tb,pb,qb⟩:=hb
 exact⟨_,Ze4 hr pa pb hm,fun H0 B Hf sd σ H Q sr h=>two qa qb qr sr h⟩
def gI (c:Int->Int->Bool)(g:Int->Int->D):D->D->M D
 |.int i,.int j=>if c i j then .ok (g i j) else .bad
 |_,_=>.bad
def A6 (g:Int->Int->D):D->D->M D
 |.int i,.int j=>.ok (g i j)
 |_,_=>.bad
def A7 {f:Value->Value->Sem Value}{gv:Int->Int->V}{gd:Int->Int->D}(h:OpR X f (Ze0 gv))(hg:∀i j (H:Hp),Rep X.K H (gd i j) (gv i j)):N9 X E f (A6 gd):=by
 refine⟨_,h,fun Hf H x y dx dy Q e rx ry q=>?_⟩
 unfold A6 at q
 split at q
 ·rename_i i j
  exact⟨i,j,rep_int.mp rx,rep_int.mp ry,Po.ret e q (hg i j Hf)⟩
 ·exact q.elim
def Zfl {f:Value->Value->Sem Value}{C:Int->Int->Prop}{c:Int->Int->Bool}{gv:Int->Int->V}{gd:Int->Int->D}(h:OpR X f (rI C gv))(hc:∀i j,c i j=true->C i j)(hg:∀i j (H:Hp),Rep X.K H (gd i j) (gv i j)):N9 X E f (gI c gd):=by
 refine⟨_,h,fun Hf H x y dx dy Q e rx ry q=>?_⟩
 unfold gI at q
 split at q
 ·rename_i i j
  split at q
  ·rename_i hcc
   exact⟨i,j,rep_int.mp rx,rep_int.mp ry,hc i j hcc,Po.ret e q (hg i j Hf)⟩
  ·exact q.elim
 ·exact q.elim
def Vs:D->D->M D:=A6 fun i j=>.int (i-j)
def T7:D->D->M D:=A6 fun i j=>.bl (decide (i<j))
def Zi9:D->D->M D:=A6 fun i j=>.bl (decide (i<=j))
def Rp:D->D->M D:=A6 fun i j=>.bl (decide (j<i))
def Zl0:D->D->M D:=A6 fun i j=>.bl (decide (j<=i))
def J2:N9 X E (binaryOp .Sub) Vs:=A7 Zit fun _ _ _=>rep_int.mpr rfl
def Gv:N9 X E (compareOp .Lt) T7:=A7 Zlk fun _ _ _=>rep_bl.mpr rfl
def Zbz:N9 X E (compareOp .LtE) Zi9:=A7 Zll fun _ _ _=>rep_bl.mpr rfl
def P8:N9 X E (compareOp .Gt) Rp:=A7 Zlm fun _ _ _=>rep_bl.mpr rfl
def Zl1:N9 X E (compareOp .GtE) Zl0:=A7 Zln fun _ _ _=>rep_bl.mpr rfl
end
section
variable {X:Cx}{E:XK}{pos:Pos}{a b:Expr}
def Fy {i:Int}(h:i.natAbs<2 ^ 4000):Builtin.Int.intBits i<=2 ^ 20:=by
 unfold Builtin.Int.intBits
 split
 ·exact Nat.zero_le _
 ·rename_i hz
  have hn:i.natAbs≠0:=fun z=>hz (by rw[Int.natAbs_eq_zero.mp z];rfl)
  have:i.natAbs.log2<4000:=(Nat.log2_lt hn).mpr h
  have e:(2:Nat) ^ 20=1048576:=rfl
  lia
def Zn6 (i j:Int):Prop:=i.natAbs<2 ^ 4000/\j.natAbs<2 ^ 4000
def Zo7 (_i j:Int):Prop:=j≠0/\j.natAbs<2 ^ 4000
def Zb0 {j:Int}(h:j.natAbs<2 ^ 4000):j.natAbs.log2<9000:=by
 by_cases hn:j.natAbs=0
 ·rw[hn];decide
 ·have:j.natAbs.log2<4000:=(Nat.log2_lt hn).mpr h
  lia
def Zfm:OpR X (binaryOp .Mult) (rI Zn6 fun i j=>.int (i*j)):=Zm7 fun _ _ _ _ _ _ _ hc q=>mul_int q (IntMulOk.of_bits (Fy hc.1) (Fy hc.2))
def Zb1:OpR X (binaryOp .FloorDiv) (rI Zo7 fun i j=>.int (i.fdiv j)):=Zm7 fun _ _ _ _ _ _ _ hc q=>floordiv_int hc.1 q (.inl (PyProof.noPylong_of_log2 (Zb0 hc.2)))
def sm (i:Int):Bool:=decide (i.natAbs<2 ^ 4000)
def sm_iff {i:Int}:sm i=true↔i.natAbs<2 ^ 4000:=decide_eq_true_iff
def Zl2:D->D->M D:=gI (fun i j=>sm i&&sm j) fun i j=>.int (i*j)
def Yv:D->D->M D:=gI (fun _ j=>j != 0&&sm j) fun i j=>.int (i.fdiv j)
def Q5:D->D->M D:=gI (fun _ j=>j != 0) fun i j=>.int (i.fmod j)
def Zfn:D->D->M D:=gI (fun i j=>decide (0<=j/\j<=1000/\i.natAbs<1000)) fun i j=>.int (i ^ j.toNat)
def Zja:N9 X E (binaryOp .Mult) Zl2:=Zfl Zfm (fun i j h=>by
 rw[Bool.and_eq_true] at h
 exact⟨sm_iff.mp h.1,sm_iff.mp h.2⟩) fun _ _ _=>rep_int.mpr rfl
def Y6:N9 X E (binaryOp .FloorDiv) Yv:=Zfl Zb1 (fun i j h=>by
 rw[Bool.and_eq_true] at h
 exact⟨by simpa using h.1,sm_iff.mp h.2⟩) fun _ _ _=>rep_int.mpr rfl
def Ya:N9 X E (binaryOp .Mod) Q5:=Zfl Ze2 (fun i j h=>by simpa using h) fun _ _ _=>rep_int.mpr rfl
def Zjb:N9 X E (binaryOp .Pow) Zfn:=Zfl Ziu (fun i j h=>by
 have h:=of_decide_eq_true h
 refine⟨h.1,by lia,?_⟩
 have e:(2:Nat) ^ 64=18446744073709551616:=rfl
 lia) fun _ _ _=>rep_int.mpr rfl
def Fz {K:PySem.W.Frag}{H:Hp}{ds:List D}{xs:List V}{i:Int}{d:D}(r:Reps K H ds xs)(e:N2 ds i=some d):∃x,N2 xs i=some x/\Rep K H d x:=by
 unfold N2 at e ⊢
 rw[<-r.length]
 cases q:Zi0 ds.length i with
 |none=>rw[q] at e;cases e
 |some j=>
  rw[q] at e
  exact r.get e
def Jg:D->D->M D
 |.lst ds,.int i=>match N2 ds i with
  |some d=>.ok d
  |none=>.bad
 |.tup ds,.int i=>match N2 ds i with
  |some d=>.ok d
  |none=>.bad
 |.str z,.int i=>if z.length<=sizeLine then(match N2 z.cps.toList i with
  |some c=>.ok (.str ⟨#[c]⟩)
  |none=>.bad) else .bad
 |_,_=>.bad
def Ji {fa fb:Zf->M D}(ha:Y0 X E a fa)(hb:Y0 X E b fb)(hs:Fw b):Y0 X E (.Subscript a b pos) (Zn Jg fa fb):=by
 obtain⟨ta,pa,qa⟩:=ha
 obtain⟨tb,pb,qb⟩:=hb
 refine⟨_,Zls Zi2 pa pb hs,fun H0 B Hf sd σ H Q sr h=>two qa qb (fun Hf H x y dx dy Q e rx ry q=>?_) sr h⟩
 unfold Jg at q
 split at q
 ·rename_i ds i
  split at q
  ·rename_i d ei
   obtain⟨p,xs,rfl,hp,hr⟩:=rep_lst.mp rx
   obtain⟨v,e1,e2⟩:=Fz hr ei
   exact .inl ⟨p,xs,i,v,rfl,rep_int.mp ry,e.seq hp,e1,Po.ret e q e2⟩
  ·exact q.elim
 ·rename_i ds i
  split at q
  ·rename_i d ei
   obtain⟨p,xs,rfl,hp,hr⟩:=Qc rx
   obtain⟨v,e1,e2⟩:=Fz hr ei
   exact .inr (.inl ⟨p,xs,i,v,rfl,rep_int.mp ry,Same.seqT e hp,e1,Po.ret e q e2⟩)
  ·exact q.elim
 ·rename_i z i
  split at q
  ·rename_i hz
   split at q
   ·rename_i c ei
    exact .inr (.inr ⟨z,i,c,rep_str.mp rx,rep_int.mp ry,hz,ei,Po.ret e q (rep_str.mpr rfl)⟩)
   ·exact q.elim
  ·exact q.elim
 ·exact q.elim
def Zj (_:Zf):M (List D):=.ok []
def Zc (fa:Zf->M D)(fr:Zf->M (List D))(sd:Zf):M (List D):=(fa sd).bind fun d=>(fr sd).bind fun ds=>.ok (d::ds)
def Ze:T3 X E [] Zj:=⟨_,Xa,fun _ _ _ _ _ _ _ sr h=>Po.ret sr.sub h Reps.nil⟩
def Za {es:List Expr}{fa:Zf->M D}{fr:Zf->M (List D)}(ha:Y0 X E a fa)(hr:T3 X E es fr)(hs:starEach (a::es) X.env=(false,eval a X.env)::starEach es X.env:=by rfl):T3 X E (a::es) (Zc fa fr):=by
 obtain⟨ta,pa,qa⟩:=ha
 obtain⟨tr,pr,qr⟩:=hr
 refine⟨_,Qh pa pr hs,fun H0 B Hf sd σ H Q sr h=>?_⟩
 refine qa H0 B Hf sd σ H _ sr (Po.bind h fun d v Hf1 H1 _ g1 rv h1=>?_)
 refine qr H0 B Hf1 sd σ H1 _ (sr.gr g1) (Po.bind h1 fun ds vs Hf2 H2 _ g2 rs h2=>?_)
 exact Po.ret g2.sub h2 (Reps.cons (Rep.mono g2.fz rv) rs)
def few (ds:List D):Bool:=decide (ds.length<=1000000)
def U3 {K:PySem.W.Frag}{H:Hp}{ds:List D}{xs:List V}(h:few ds=true)(r:Reps K H ds xs):xs.length<=sizeLine:=by
 have:=of_decide_eq_true h
 have e:=sizeLine_eq
 rw[<-r.length,e]
 lia
def Qn (fs:Zf->M (List D))(sd:Zf):M D:=(fs sd).bind fun ds=>if few ds then .ok (.tup ds) else .bad
def Uv (fs:Zf->M (List D))(sd:Zf):M D:=(fs sd).bind fun ds=>if few ds then .ok (.lst ds) else .bad
theorem Gr.tup {K:PySem.W.Frag}{Hf H:Hp}{p:Addr}{ds:List D}{xs:List V}(e:Same Hf H)(hp:H p=none)(r:Reps K Hf ds xs):Rep K (upd Hf p (.tup xs)) (.tup ds) (.ref p):=
 rep_tup.mpr ⟨p,xs,rfl,Zo,r.mono (Qa (e.free hp) _)⟩
theorem Gr.lst {K:PySem.W.Frag}{Hf H:Hp}{p:Addr}{ds:List D}{xs:List V}(e:Same Hf H)(hp:H p=none)(r:Reps K Hf ds xs):Rep K (upd Hf p (.lst xs)) (.lst ds) (.ref p):=
 rep_lst.mpr ⟨p,xs,rfl,SqL.of Zo,r.mono (Qa (e.free hp) _)⟩
def Qd {es:List Expr}{fs:Zf->M (List D)}{x1}(h:T3 X E es fs):Y0 X E (.Tuple es x1 pos) (Qn fs):=by
 obtain⟨t,p,q⟩:=h
 refine⟨_,M7 p,fun H0 B Hf sd σ H Q sr h=>?_⟩
 refine q H0 B Hf sd σ H _ sr (Po.bind h fun ds vs Hf1 H1 _ g1 rs h1=>?_)
 split at h1
 ·rename_i hf
  exact⟨U3 hf rs,fun p hp=>h1 _ _ _ (Gr.alloc g1.sub hp _) (Gr.tup g1.sub hp rs)⟩
 ·exact h1.elim
def K5 {es:List Expr}{fs:Zf->M (List D)}(h:T3 X E es fs):Y0 X E (.List es pos) (Uv fs):=by
 obtain⟨t,p,q⟩:=h
 refine⟨_,D8 p,fun H0 B Hf sd σ H Q sr h=>?_⟩
 refine q H0 B Hf sd σ H _ sr (Po.bind h fun ds vs Hf1 H1 _ g1 rs h1=>?_)
 split at h1
 ·rename_i hf
  exact⟨U3 hf rs,fun p hp=>h1 _ _ _ (Gr.alloc g1.sub hp _) (Gr.lst g1.sub hp rs)⟩
 ·exact h1.elim
def Vy (X:Cx)(E:XK)(f:Value)(g:List D->M D):Prop:=
 ∃r,CallR X f r/\∀(Hf H:Hp) (xs:List V) (ds:List D) (Q:VK),Same Hf H->Reps X.K Hf ds xs->Po X.K E (rV X.K) Hf H (g ds) Q->r xs H Q
def Jx (g:List D->M D)(fs:Zf->M (List D))(sd:Zf):M D:=(fs sd).bind g
def Ql {x:Str}{id:String}{p:Pos}{g:List D->M D}{e:Expr}{es:List Expr}{fs:Zf->M (List D)}(hc:Vy X E (.builtin id) g)(hg:Gl X x)(hm:X.mg x=none)(hv:bootBuiltins x=some (.builtin id))(ha:T3 X E (e::es) fs)
  (hn:x ≠ "__name__":=by decide) (hdb:(x==("__debug__":Str))=false:=by decide)
  (he:starEach (e::es) X.env=(false,eval e X.env)::starEach es X.env:=by rfl) (hpl:(backTo pos (starEach es X.env)).any (·.1)=false:=by rfl):Y0 X E (.Call (.Name x p) (e::es) [] pos) (Jx g fs):=by
 obtain⟨r,hr,qr⟩:=hc
 obtain⟨t,pt,qt⟩:=ha
 refine⟨_,Ay hr hg hm hv pt hn hdb he hpl,fun H0 B Hf sd σ H Q sr h=>?_⟩
 exact qt H0 B Hf sd σ H _ sr (Po.bind h fun ds vs Hf1 H1 _ g1 rs h1=>qr Hf1 H1 vs ds Q g1.sub rs h1)
def So {x:Str}{T:String}{p:Pos}{g:List D->M D}{e:Expr}{es:List Expr}{fs:Zf->M (List D)}(hc:Vy X E (.type T) g)(hg:Gl X x)(hm:X.mg x=none)(hv:bootBuiltins x=some (.type T))(ha:T3 X E (e::es) fs)
  (hn:x ≠ "__name__":=by decide) (hdb:(x==("__debug__":Str))=false:=by decide)
  (he:starEach (e::es) X.env=(false,eval e X.env)::starEach es X.env:=by rfl) (hpl:(backTo pos (starEach es X.env)).any (·.1)=false:=by rfl):Y0 X E (.Call (.Name x p) (e::es) [] pos) (Jx g fs):=by
 obtain⟨r,hr,qr⟩:=hc
 obtain⟨t,pt,qt⟩:=ha
 refine⟨_,Ls hr hg hm hv pt hn hdb he hpl,fun H0 B Hf sd σ H Q sr h=>?_⟩
 exact qt H0 B Hf sd σ H _ sr (Po.bind h fun ds vs Hf1 H1 _ g1 rs h1=>qr Hf1 H1 vs ds Q g1.sub rs h1)
def Kg {K:PySem.W.Frag}{H:Hp}{d:D}{xs:List V}(r:Reps K H [d] xs):∃x,xs=[x]/\Rep K H d x:=by
 obtain⟨x,t,rfl,h,r2⟩:=reps_cons.mp r
 rw[reps_nil.mp r2];exact⟨x,rfl,h⟩
def L0 {K:PySem.W.Frag}{H:Hp}{d e:D}{xs:List V}(r:Reps K H [d,e] xs):∃x y,xs=[x,y]/\Rep K H d x/\Rep K H e y:=by
 obtain⟨x,t,rfl,h,r2⟩:=reps_cons.mp r
 obtain⟨y,rfl,h2⟩:=Kg r2
 exact⟨x,y,rfl,h,h2⟩
def Vt:List D->M D
 |[.int i]=>.ok (.int (if i<0 then -i else i))
 |_=>.bad
def U4:Vy X E (.builtin "abs") Vt:=by
 refine⟨_,Zbj,fun Hf H xs ds Q e r q=>?_⟩
 unfold Vt at q
 split at q
 ·obtain⟨x,rfl,h⟩:=Kg r
  rw[rep_int.mp h]
  exact⟨_,rfl,Po.ret e q (rep_int.mpr rfl)⟩
 ·exact q.elim
def Ow:List D->M D
 |[.int i]=>.ok (.int i)
 |[.bl b]=>.ok (.int (if b then 1 else 0))
 |_=>.bad
def Zjc:Vy X E (.type "int") Ow:=by
 refine⟨_,Ol,fun Hf H xs ds Q e r q=>?_⟩
 unfold Ow at q
 split at q
 ·obtain⟨x,rfl,h⟩:=Kg r
  rw[rep_int.mp h]
  exact .inl ⟨_,rfl,Po.ret e q (rep_int.mpr rfl)⟩
 ·obtain⟨x,rfl,h⟩:=Kg r
  rw[rep_bl.mp h]
  exact .inr ⟨_,rfl,Po.ret e q (rep_int.mpr rfl)⟩
 ·exact q.elim
def Vz:List D->M D
 |[.lst ds]=>.ok (.int ds.length)
 |[.tup ds]=>.ok (.int ds.length)
 |[.str z]=>if z.length<=sizeLine then .ok (.int z.length) else .bad
 |_=>.bad
def U5:Vy X E (.builtin "len") Vz:=by
 refine⟨_,call_len_seq.or Bb,fun Hf H xs ds Q e r q=>?_⟩
 unfold Vz at q
 split at q
 ·obtain⟨x,rfl,h⟩:=Kg r
  obtain⟨p,ys,rfl,hp,hr⟩:=rep_lst.mp h
  refine .inl ⟨p,ys,rfl,.inl (e.seq hp),?_⟩
  rw[<-hr.length]
  exact Po.ret e q (rep_int.mpr rfl)
 ·obtain⟨x,rfl,h⟩:=Kg r
  obtain⟨p,ys,rfl,hp,hr⟩:=Qc h
  refine .inl ⟨p,ys,rfl,.inr (Same.seqT e hp),?_⟩
  rw[<-hr.length]
  exact Po.ret e q (rep_int.mpr rfl)
 ·split at q
  ·rename_i hz
   obtain⟨x,rfl,h⟩:=Kg r
   rw[rep_str.mp h]
   exact .inr ⟨_,rfl,hz,Po.ret e q (rep_int.mpr rfl)⟩
  ·exact q.elim
 ·exact q.elim
def Zb2:List D->M D
 |[.lst ds]=>.ok (.lst ds)
 |[.tup ds]=>.ok (.lst ds)
 |_=>.bad
def Zfo:Vy X E (.type "list") Zb2:=by
 refine⟨_,Go,fun Hf H xs ds Q e r q=>?_⟩
 unfold Zb2 at q
 split at q
 ·obtain⟨x,rfl,h⟩:=Kg r
  obtain⟨p,ys,rfl,hp,hr⟩:=rep_lst.mp h
  exact⟨p,ys,rfl,.inl (e.seq hp),fun l hl=>q _ _ _ (Gr.alloc e hl _) (Gr.lst e hl hr)⟩
 ·obtain⟨x,rfl,h⟩:=Kg r
  obtain⟨p,ys,rfl,hp,hr⟩:=Qc h
  exact⟨p,ys,rfl,.inr (Same.seqT e hp),fun l hl=>q _ _ _ (Gr.alloc e hl _) (Gr.lst e hl hr)⟩
 ·exact q.elim
def Ee:List D->M D
 |[.lst ds]=>.ok (.tup ds)
 |[.tup ds]=>.ok (.tup ds)
 |_=>.bad
def Zb3:Vy X E (.type "tuple") Ee:=by
 refine⟨_,T6,fun Hf H xs ds Q e r q=>?_⟩
 unfold Ee at q
 split at q
 ·obtain⟨x,rfl,h⟩:=Kg r
  obtain⟨p,ys,rfl,hp,hr⟩:=rep_lst.mp h
  exact⟨p,ys,rfl,.inl ⟨e.seq hp,fun l hl=>q _ _ _ (Gr.alloc e hl _) (Gr.tup e hl hr)⟩⟩
 ·obtain⟨x,rfl,h⟩:=Kg r
  obtain⟨p,ys,rfl,hp,hr⟩:=Qc h
  exact⟨p,ys,rfl,.inr ⟨Same.seqT e hp,Po.ret e q (h)⟩⟩
 ·exact q.elim
def asB:D->M Bool
 |.bl b=>.ok b
 |_=>.bad
def tB (f:Zf->M D)(sd:Zf):M Bool:=(f sd).bind asB
def tN (f:Zf->M Bool)(sd:Zf):M Bool:=(f sd).bind fun b=>.ok (!b)
def tA (f g:Zf->M Bool)(sd:Zf):M Bool:=(f sd).bind fun b=>if b then g sd else .ok false
def tO (f g:Zf->M Bool)(sd:Zf):M Bool:=(f sd).bind fun b=>if b then .ok true else g sd
def Yb {e:Expr}{f:Zf->M D}(h:Y0 X E e f)(he:∀whole,isTrue e X.env whole=(do let v <-whole;standAt e.pos;holding [v] (truthy v)):=by intro _;rfl):Lz X E e (tB f):=by
 obtain⟨t,p,q⟩:=h
 refine⟨_,Zih p he,fun H0 B Hf sd σ H Q sr h=>?_⟩
 refine q H0 B Hf sd σ H _ sr (Po.bind h fun d v Hf1 H1 _ g1 rv h1=>?_)
 unfold asB at h1
 split at h1
 ·exact⟨_,rep_bl.mp rv,Po.ret (R:=rQ) g1.sub h1 rfl⟩
 ·exact h1.elim
def Zy {op:CmpOp}{g:D->D->M D}{fa fb:Zf->M D}(ho:N9 X E (compareOp op) g)(ha:Y0 X E a fa)(hb:Y0 X E b fb)(hm:behindInMarks op b=false):Lz X E (.Compare a [op] [b] pos) (tB (Zn g fa fb)):=by
 obtain⟨r,hr,qr⟩:=ho
 obtain⟨ta,pa,qa⟩:=ha
 obtain⟨tb,pb,qb⟩:=hb
 refine⟨_,M4 hr pa pb hm,fun H0 B Hf sd σ H Q sr h=>?_⟩
 refine two qa qb qr sr (Po.bind h fun d v Hf1 H1 _ g1 rv h1=>?_)
 unfold asB at h1
 split at h1
 ·exact⟨_,rep_bl.mp rv,Po.ret (R:=rQ) g1.sub h1 rfl⟩
 ·exact h1.elim
def X2 {f:Zf->M Bool}(h:Lz X E a f):Lz X E (.UnaryOp .Not a pos) (tN f):=by
 obtain⟨t,p,q⟩:=h
 refine⟨_,Zik p,fun H0 B Hf sd σ H Q sr h=>?_⟩
 refine q H0 B Hf sd σ H _ sr (Po.bind h fun b v Hf1 H1 _ g1 rv h1=>?_)
 have e:b=v:=rv
 subst e
 exact Po.ret (R:=rQ) g1.sub h1 rfl
theorem PWd.pt {f:Zf->M Bool}{e:Expr}(h:PWd X E e f):Lz X E e f:=by
 obtain⟨t,p,q⟩:=h
 exact⟨t,p.pt,q⟩
def V0 {f:Zf->M Bool}(h:Lz X E a f):PWd X E (.BoolOp .And [a] pos) f:=by
 obtain⟨t,p,q⟩:=h
 exact⟨t,Zex p,q⟩
def Kf {f:Zf->M Bool}(h:Lz X E a f):PWd X E (.BoolOp .Or [a] pos) f:=by
 obtain⟨t,p,q⟩:=h
 exact⟨t,Zii p,q⟩
def V7 {rest:List Expr}{f g:Zf->M Bool}(h:Lz X E a f)(h2:PWd X E (.BoolOp .And (b::rest) pos) g):PWd X E (.BoolOp .And (a::b::rest) pos) (tA f g):=by
 obtain⟨t,p,q⟩:=h
 obtain⟨t2,p2,q2⟩:=h2
 refine⟨_,Zij p p2,fun H0 B Hf sd σ H Q sr h=>?_⟩
 refine q H0 B Hf sd σ H _ sr (Po.bind h fun b v Hf1 H1 _ g1 rv h1=>?_)
 have e:b=v:=rv
 subst e
 cases b with
 |true=>rw[if_pos rfl] at h1 ⊢;exact q2 H0 B Hf1 sd σ H1 Q (sr.gr g1) h1
 |false=>rw[if_neg Bool.false_ne_true] at h1 ⊢;exact Po.ret (R:=rQ) g1.sub h1 rfl
def Kl {rest:List Expr}{f g:Zf->M Bool}(h:Lz X E a f)(h2:PWd X E (.BoolOp .Or (b::rest) pos) g):PWd X E (.BoolOp .Or (a::b::rest) pos) (tO f g):=by
 obtain⟨t,p,q⟩:=h
 obtain⟨t2,p2,q2⟩:=h2
 refine⟨_,Zk8 p p2,fun H0 B Hf sd σ H Q sr h=>?_⟩
 refine q H0 B Hf sd σ H _ sr (Po.bind h fun b v Hf1 H1 _ g1 rv h1=>?_)
 have e:b=v:=rv
 subst e
 cases b with
 |true=>rw[if_pos rfl] at h1 ⊢;exact Po.ret (R:=rQ) g1.sub h1 rfl
 |false=>rw[if_neg Bool.false_ne_true] at h1 ⊢;exact q2 H0 B Hf1 sd σ H1 Q (sr.gr g1) h1
def Rq (f g:Zf->M D)(sd:Zf):M D:=(f sd).bind fun d=>(asB d).bind fun b=>if b then g sd else .ok (.bl false)
def Zl3 (f:Zf->M D)(sd:Zf):M D:=(f sd).bind fun d=>(asB d).bind fun b=>.ok (.bl (!b))
def Ao (c:Zf->M Bool)(f g:Zf->M D)(sd:Zf):M D:=(c sd).bind fun b=>if b then f sd else g sd
def Sq {op}{f:Zf->M D}(h:Y0 X E a f):Y0 X E (.BoolOp op [a] pos) f:=by
 obtain⟨t,p,q⟩:=h
 exact⟨t,Zil p,q⟩
def Zjd {d:D}{b:Bool}(h:asB d=.ok b):d=.bl b:=by
 unfold asB at h
 split at h
 ·cases h;rfl
 ·cases h
def Zb4 {d:D}{x:XV}(h:asB d=.ex x):False:=by
 unfold asB at h
 split at h<;>cases h
theorem Po.asB {K:PySem.W.Frag}{α β:Type}{R:Hp->Hp->α->β->Prop}{Hf H:Hp}{d:D}{k:Bool->M α}{Q:β->Hp->Prop}(h:Po K E R Hf H ((asB d).bind k) Q):∃b,d=.bl b/\Po K E R Hf H (k b) Q:=by
 cases q:DL.asB d with
 |ok b=>rw[q] at h;exact⟨b,Zjd q,h⟩
 |ex x=>exact(Zb4 q).elim
 |bad=>rw[q] at h;exact h.elim
def Pa {rest:List Expr}{f g:Zf->M D}(h:Y0 X E a f)(h2:Y0 X E (.BoolOp .And (b::rest) pos) g):Y0 X E (.BoolOp .And (a::b::rest) pos) (Rq f g):=by
 obtain⟨t,p,q⟩:=h
 obtain⟨t2,p2,q2⟩:=h2
 refine⟨_,Zim p p2,fun H0 B Hf sd σ H Q sr h=>?_⟩
 refine q H0 B Hf sd σ H _ sr (Po.bind h fun d v Hf1 H1 _ g1 rv h1=>?_)
 obtain⟨c,rfl,h2⟩:=Po.asB h1
 refine⟨c,rep_bl.mp rv,?_⟩
 cases c with
 |true=>rw[if_pos rfl] at h2 ⊢;exact q2 H0 B Hf1 sd σ H1 Q (sr.gr g1) h2
 |false=>rw[if_neg Bool.false_ne_true] at h2 ⊢;exact Po.ret (R:=rV X.K) g1.sub h2 (rep_bl.mpr rfl)
def Zje {f:Zf->M D}(h:Y0 X E a f):Y0 X E (.UnaryOp .Not a pos) (Zl3 f):=by
 obtain⟨t,p,q⟩:=h
 refine⟨_,Zin p,fun H0 B Hf sd σ H Q sr h=>?_⟩
 refine q H0 B Hf sd σ H _ sr (Po.bind h fun d v Hf1 H1 _ g1 rv h1=>?_)
 obtain⟨c,rfl,h2⟩:=Po.asB h1
 exact⟨c,rep_bl.mp rv,Po.ret (R:=rV X.K) g1.sub h2 (rep_bl.mpr rfl)⟩
def Kh {c:Expr}{f g:Zf->M D}{k:Zf->M Bool}(hc:Lz X E c k)(h:Y0 X E a f)(h2:Y0 X E b g):Y0 X E (.IfExp c a b pos) (Ao k f g):=by
 obtain⟨t,p,q⟩:=hc
 obtain⟨t1,p1,q1⟩:=h
 obtain⟨t2,p2,q2⟩:=h2
 refine⟨_,Au p p1 p2,fun H0 B Hf sd σ H Q sr h=>?_⟩
 refine q H0 B Hf sd σ H _ sr (Po.bind h fun c v Hf1 H1 _ g1 rv h1=>?_)
 have e:c=v:=rv
 subst e
 cases c with
 |true=>rw[if_pos rfl] at h1 ⊢;exact q1 H0 B Hf1 sd σ H1 Q (sr.gr g1) h1
 |false=>rw[if_neg Bool.false_ne_true] at h1 ⊢;exact q2 H0 B Hf1 sd σ H1 Q (sr.gr g1) h1
end
section
variable {X:Cx}{E:XK}{pos:Pos}{a b:Expr}
def Q8 (sd:Zf):M O:=.ok (.nx sd)
def Zu (f g:Zf->M O)(sd:Zf):M O:=(f sd).bind fun o=>match o with
 |.nx sd'=>g sd'
 |o=>.ok o
def Qe:Gs X E [] Q8:=⟨_,R0,fun _ _ Hf _ _ _ _ sr h=>h _ Hf _ (Same.refl _) sr⟩
def Zl {st:Stmt}{f:Zf->M O}(h:N8 X E st f):Gs X E [st] f:=by
 obtain⟨t,p,q⟩:=h
 exact⟨t,X1 p,q⟩
def Zh {st:Stmt}{rest:List Stmt}{f g:Zf->M O}(h:N8 X E st f)(h2:Gs X E rest g):Gs X E (st::rest) (Zu f g):=by
 obtain⟨t,p,q⟩:=h
 obtain⟨t2,p2,q2⟩:=h2
 refine⟨_,Qj p p2,fun H0 B Hf sd σ H D sr h=>?_⟩
 refine q H0 B Hf sd σ H _ sr ?_
 unfold Zu at h
 cases e:f sd with
 |ok o=>
  rw[e] at h
  cases o with
  |nx sd'=>exact fun σ' Hf' H' e' sr'=>q2 H0 B Hf' sd' σ' H' D sr' (PoS.weak e' h)
  |rt s=>exact h
  |bk sd'=>exact h
  |ct sd'=>exact h
 |ex x=>rw[e] at h;exact h
 |bad=>rw[e] at h;exact h
def Z8 (i:Nat)(f:Zf->M D)(sd:Zf):M O:=(f sd).bind fun d=>.ok (.nx (sd.set i (some (.im d))))
def Zq (i:Nat){x:Str}{e:Expr}{f:Zf->M D}{pos':Pos}(hN:X.N.Nodup)(h:Y0 X E e f)(hi:X.N[i]?=some x:=by rfl)(hx:Za8 X.env.scope x:=by trivial)(hs:swapsWith e (some (.Name x pos')) pos.line X.env=pure false:=by rfl)(hf:X.fn x=true\/X.env.scope.names.lookup x=some .local:=by first|exact .inl rfl|exact .inr rfl|assumption):
  N8 X E (.Assign [.Name x pos'] e pos) (Z8 i f):=by
 obtain⟨t,p,q⟩:=h
 refine⟨_,Vr hN hi hx p hs hf,fun H0 B Hf sd σ H D sr h=>?_⟩
 refine q H0 B Hf sd σ H _ sr (PoS.bind sr h fun d v Hf1 H1 _ g1 sr1 rv h1=>?_)
 exact h1 _ Hf1 H1 (Same.refl _) (sr1.set_im i rv)
def Qv (f:Zf->M D)(sd:Zf):M O:=(f sd).bind fun d=>.ok (.rt (.im d))
def Zt {e:Expr}{f:Zf->M D}(h:Y0 X E e f):N8 X E (.Return (some e) pos) (Qv f):=by
 obtain⟨t,p,q⟩:=h
 refine⟨_,W3 p,fun H0 B Hf sd σ H D sr h=>?_⟩
 refine q H0 B Hf sd σ H _ sr (PoS.bind sr h fun d v Hf1 H1 _ g1 sr1 rv h1=>?_)
 exact h1 v Hf1 H1 (Same.refl _) sr1.fin rv
def Jf (c:Zf->M Bool)(f g:Zf->M O)(sd:Zf):M O:=(c sd).bind fun b=>if b then f sd else g sd
def Qk {c:Expr}{xs ys:List Stmt}{k:Zf->M Bool}{f g:Zf->M O}(hc:Lz X E c k)(h:Gs X E xs f)(h2:Gs X E ys g):N8 X E (.If c xs ys pos) (Jf k f g):=by
 obtain⟨t,p,q⟩:=hc
 obtain⟨t1,p1,q1⟩:=h
 obtain⟨t2,p2,q2⟩:=h2
 refine⟨_,Fq p p1 p2,fun H0 B Hf sd σ H D sr h=>?_⟩
 refine q H0 B Hf sd σ H _ sr (PoS.bind (R:=rQ) sr h fun c v Hf1 H1 _ g1 sr1 rv h1=>?_)
 have e:c=v:=rv
 subst e
 cases c with
 |true=>rw[if_pos rfl] at h1 ⊢;exact q1 H0 B Hf1 sd σ H1 D sr1 h1
 |false=>rw[if_neg Bool.false_ne_true] at h1 ⊢;exact q2 H0 B Hf1 sd σ H1 D sr1 h1
def Yt (c:Zf->M Bool)(f:Zf->M O):Nat->Zf->M O
 |0,_=>.bad
 |n+1,sd=>(c sd).bind fun b=>if b then((f sd).bind fun o=>match o with
   |.nx sd'=>Yt c f n sd'
   |.ct sd'=>Yt c f n sd'
   |.bk sd'=>.ok (.nx sd')
   |.rt s=>.ok (.rt s)) else .ok (.nx sd)
open Classical in
noncomputable def W5 (c:Zf->M Bool)(f:Zf->M O)(sd:Zf):M O:=if h:∃n,Yt c f n sd≠.bad then Yt c f (choose h) sd else .bad
theorem Vi (c:Zf->M Bool)(f:Zf->M O):∀(n m:Nat) (sd:Zf),n<=m->Yt c f n sd≠.bad->Yt c f m sd=Yt c f n sd
 |0,_,_,_,h=>absurd rfl h
 |n+1,0,_,hm,_=>absurd hm (by lia)
 |n+1,m+1,sd,hm,h=>by
  unfold Yt at h ⊢
  cases e:c sd with
  |ok b=>
   rw[e] at h
   simp only[M.bind_ok] at h ⊢
   cases b with
   |false=>rfl
   |true=>
    simp only[if_true] at h ⊢
    cases e2:f sd with
    |ok o=>
     rw[e2] at h
     simp only[M.bind_ok] at h ⊢
     cases o with
     |nx sd'=>exact Vi c f n m sd' (by lia) h
     |ct sd'=>exact Vi c f n m sd' (by lia) h
     |bk sd'=>rfl
     |rt s=>rfl
    |ex x=>rfl
    |bad=>rfl
  |ex x=>rfl
  |bad=>rfl
def L1 {c:Zf->M Bool}{f:Zf->M O}{n:Nat}{sd:Zf}(h:Yt c f n sd≠.bad):W5 c f sd=Yt c f n sd:=by
 unfold W5
 have hx:∃n,Yt c f n sd≠.bad:=⟨n,h⟩
 rw[dif_pos hx]
 have h2:=Classical.choose_spec hx
 rcases Nat.le_total n (Classical.choose hx) with l|l
 ·exact Vi c f _ _ sd l h
 ·exact(Vi c f _ _ sd l h2).symm
def L3 {c:Expr}{body:List Stmt}{k:Zf->M Bool}{f:Zf->M O}(hp:PassesOwn (model X.prog X.w) X.A X.env X.xe)(hc:Lz X E c k)(h:Gs X E body f):N8 X E (.While c body [] pos) (W5 k f):=by
 obtain⟨t,p,q⟩:=hc
 obtain⟨t1,p1,q1⟩:=h
 refine⟨_,Av hp p p1,fun H0 B Hf sd σ H D sr h=>?_⟩
 obtain⟨n,hn⟩:∃n,PoS X.K E H0 B Hf (Yt k f n sd) D:=by
  unfold W5 at h
  split at h
  ·exact⟨_,h⟩
  ·exact h.elim
 refine⟨fun m σ' H'=>∃Hf' sd',Same Hf Hf'/\SR X.K H0 B Hf' sd' σ' H'/\PoS X.K E H0 B Hf' (Yt k f m sd') D,⟨n,Hf,sd,Same.refl _,sr,hn⟩,?_⟩
 rintro m σ1 H1 ⟨Hf1,sd1,e1,sr1,h1⟩
 cases m with
 |zero=>exact h1.elim
 |succ m=>
  unfold Yt at h1
  refine q H0 B Hf1 sd1 σ1 H1 _ sr1 (PoS.bind (R:=rQ) sr1 h1 fun c v Hf2 H2 _ g2 sr2 rv h2=>?_)
  have e:c=v:=rv
  subst e
  cases c with
  |false=>
   rw[if_neg Bool.false_ne_true] at h2 ⊢
   exact h2 σ1 Hf2 H2 (Same.refl _) sr2
  |true=>
   rw[if_pos rfl] at h2 ⊢
   refine⟨fun σ' H'=>∃Hf' sd',Same Hf Hf'/\SR X.K H0 B Hf' sd' σ' H'/\PoS X.K E H0 B Hf' (Yt k f m sd') D,fun σ' H' w=>⟨m,Nat.lt_succ_self m,w⟩,?_⟩
   refine q1 H0 B Hf2 sd1 σ1 H2 _ sr2 ?_
   cases e2:f sd1 with
   |ok o=>
    rw[e2] at h2
    cases o with
    |nx sd'=>exact fun σ' Hf' H' e' sr'=>⟨Hf',sd',e1.trans (g2.fz.trans e'),sr',PoS.weak e' h2⟩
    |ct sd'=>exact fun σ' Hf' H' e' sr'=>⟨Hf',sd',e1.trans (g2.fz.trans e'),sr',PoS.weak e' h2⟩
    |bk sd'=>exact h2
    |rt s=>exact h2
   |ex x=>rw[e2] at h2;exact h2
   |bad=>rw[e2] at h2;exact h2
end
section
variable {prog:Program}{w:World}{A:Around}{E:Value->Shared->Prop}
theorem L4 {it t:Addr}{items:Array Value}(hne:t≠it):∀(n i:Nat) (s:Shared) (Q:List Value->Shared->Prop),s.heap.IsListIter it t i->s.heap.IsList t items->i+n<=items.size ->
  (∀h',h'.IsListIter it t (i+n)->Heap.SameBut it s.heap h'->Q ((items.toList.drop i).take n) {s with heap:=h'})->wpAny (model prog w) A (draw (.ref it) n) Q E s
 |0,i,s,Q,hit,_,_,hQ=>by
  show wpAny _ _ (pure []) Q E s
  exact wpAny_pure (by simpa using hQ s.heap hit (Heap.SameBut.refl ..))
 |n+1,i,s,Q,hit,ht,hle,hQ=>by
  have hlt:i<items.size:=by lia
  show wpAny _ _ (pyNext (.ref it)>>=_) Q E s
  refine wpAny_bind (wpAny_pyNext_list_item hit ht (x:=items[i]) (by simp[hlt]) fun h₁ hit₁ hs₁=>?_)
  refine wpAny_bind (wpAny_holding (L4 hne n (i+1) _ _ hit₁ (ht.extBut hs₁.extBut hne) (by lia) fun h₂ hit₂ hs₂=>wpAny_pure ?_))
  have hd:items.toList.drop i=items[i]::items.toList.drop (i+1):=by simp[List.drop_eq_getElem_cons,hlt]
  have:=hQ h₂ (by rw[show i+(n+1)=i+1+n by lia];exact hit₂) (hs₁.trans hs₂)
  rw[hd,List.take_succ_cons] at this
  exact this
def Pb {s:Shared}{t:Addr}{items:Array Value}{Q:List Value->Shared->Prop}(hh:A.handled=none)(ht:s.heap.IsList t items)(hQ:∀h',Heap.ExtBut s.heap.objs.size s.heap h'->Q items.toList {s with heap:=h'}):wpAny (model prog w) A (unpackItems (.ref t) items.size none) Q E s:=by
 have hlt:t≠s.heap.objs.size:=by obtain⟨o,ho,_⟩:=ht;exact Nat.ne_of_lt (Heap.lt_size ho)
 unfold unpackItems
 refine wpAny_bind ?_
 ·unfold notIterableAtAll
  refine wpAny_bind (wpAny_specialOf ht.typeIs slot_list_iter.lookup ?_)
  refine wpAny_pure ?_
  simp only[Bool.false_eq_true,if_false]
  refine wpAny_bind (wpAny_holding (wpAny_pyIter_list ht ?_))
  refine wpAny_bind (wpAny_holding (L4 hlt items.size 0 _ _ ⟨_,Heap.get?_push_size _ rfl,rfl,rfl⟩ (ht.push _) (by lia) fun h₁ hit₁ hs₁=>?_))
  have hall:List.take items.size (List.drop 0 items.toList)=items.toList:=by
   rw[List.drop_zero];exact List.take_of_length_le (by simp)
  rw[hall]
  rw[if_neg (by simp)]
  have ht₁:h₁.IsList t items:=(ht.push _).extBut hs₁.extBut hlt
  refine wpAny_bind (wpAny_holding (wpAny_pyNext_list_end hh hit₁ ht₁ (by simp) fun h₂ he₂=>?_))
  simp only[Option.isSome_none,Bool.false_eq_true,if_false]
  refine wpAny_pure (hQ h₂ fun b o hb e=>he₂ b o hb (hs₁.extBut b o hb (Heap.get?_push_of_some _ e)))
def Gw {s:Shared}{env:Env}{elts:List Expr}{x1}{pos:Pos}{t:Addr}{items:Array Value}{Q:Unit->Shared->Prop}(hh:A.handled=none)(ht:s.heap.IsList t items)(hn:(assignEach elts env).length=items.size)(hstar:(assignEach elts env).findIdx? (·.1)=none)(h:∀h',Heap.ExtBut s.heap.objs.size s.heap h'->wpAny (model prog w) A (assignInOrder ((assignEach elts env).map (·.2)) items.toList) Q E {s with heap:=h'}):
  wpAny (model prog w) A (assign (.Tuple elts x1 pos) env (.ref t)) Q E s:=by
 rw[assign_Tuple]
 refine wpAny_bind (wpAny_standAt ?_)
 unfold unpack
 rw[hn,hstar]
 exact wpAny_bind (wpAny_holding (Pb hh ht h))
def Ef (x:Str):List V:=x.cps.toList.map fun c=>V.str ⟨#[c]⟩
theorem A8 {it:Addr}{x:Str}{t:Tok}:∀(n i:Nat) (s:Shared) (Q:List Value->Shared->Prop),s.heap.IsStrIter it "str_ascii_iterator" x t i->i+n<=x.cps.size ->
  (∀h' tk us,h'.IsStrIter it "str_ascii_iterator" x t (i+n)->Heap.SameBut it s.heap h'->Vals (((Ef x).drop i).take n) us->Q us {s with heap:=h',toks:=tk})->wpAny (model prog w) A (draw (.ref it) n) Q E s
 |0,i,s,Q,hit,_,hQ=>by
  show wpAny _ _ (pure []) Q E s
  exact wpAny_pure (hQ s.heap s.toks [] hit (Heap.SameBut.refl ..) (by simpa using Paired.nil))
 |n+1,i,s,Q,hit,hle,hQ=>by
  have hlt:i<x.cps.size:=by lia
  show wpAny _ _ (pyNext (.ref it)>>=_) Q E s
  refine wpAny_bind (wpAny_pyNext_ascii_item hit (c:=x.cps[i]) (by simp[hlt]) fun h₁ hit₁ hs₁=>?_)
  refine wpAny_bind (wpAny_holding (A8 n (i+1) _ _ hit₁ (by lia) fun h₂ tk us hit₂ hs₂ hv=>wpAny_pure ?_))
  have hd:(Ef x).drop i=V.str ⟨#[x.cps[i]]⟩::(Ef x).drop (i+1):=by
   have hl:i<(Ef x).length:=by simp[Ef,hlt]
   rw[List.drop_eq_getElem_cons hl];simp[Ef]
  refine hQ h₂ tk _ (by rw[show i+(n+1)=i+1+n by lia];exact hit₂) (hs₁.trans hs₂) ?_
  rw[hd,List.take_succ_cons]
  exact .cons ⟨_,rfl⟩ hv
def Rr {s:Shared}{x:Str}{t:Tok}{Q:List Value->Shared->Prop}(hh:A.handled=none)(ha:x.cps.all (·<128)=true)(hQ:∀h' tk us,Heap.ExtBut s.heap.objs.size s.heap h'->Vals (Ef x) us->Q us {s with heap:=h',toks:=tk}):wpAny (model prog w) A (unpackItems (.str x t) x.cps.size none) Q E s:=by
 unfold unpackItems
 refine wpAny_bind ?_
 ·unfold notIterableAtAll
  refine wpAny_bind (wpAny_specialOf (typeIs_str s x t) PySem.F.slot_str_iter.lookup ?_)
  refine wpAny_pure ?_
  simp only[Bool.false_eq_true,if_false]
  refine wpAny_bind (wpAny_holding (wpAny_pyIter_ascii ha ?_))
  refine wpAny_bind (wpAny_holding (A8 x.cps.size 0 _ _ ⟨_,Heap.get?_push_size _ rfl,rfl,rfl⟩ (by lia) fun h₁ tk us hit₁ hs₁ hv=>?_))
  have hall:List.take x.cps.size (List.drop 0 (Ef x))=Ef x:=by
   rw[List.drop_zero];exact List.take_of_length_le (by simp[Ef])
  rw[hall] at hv
  have hl:us.length=x.cps.size:=by rw[<-hv.length];simp[Ef]
  rw[if_neg (by simp[hl])]
  refine wpAny_bind (wpAny_holding (wpAny_pyNext_ascii_end hh hit₁ (by simp) fun h₂ he₂=>?_))
  simp only[Option.isSome_none,Bool.false_eq_true,if_false]
  refine wpAny_pure (hQ h₂ tk us (fun b o hb e=>he₂ b o hb (hs₁.extBut b o hb (Heap.get?_push_of_some _ e))) hv)
def Pc {s:Shared}{env:Env}{elts:List Expr}{x1}{pos:Pos}{x:Str}{t:Tok}{Q:Unit->Shared->Prop}(hh:A.handled=none)(ha:x.cps.all (·<128)=true)(hn:(assignEach elts env).length=x.cps.size)(hstar:(assignEach elts env).findIdx? (·.1)=none)(h:∀h' tk us,Heap.ExtBut s.heap.objs.size s.heap h'->Vals (Ef x) us->wpAny (model prog w) A (assignInOrder ((assignEach elts env).map (·.2)) us) Q E {s with heap:=h',toks:=tk}):
  wpAny (model prog w) A (assign (.Tuple elts x1 pos) env (.str x t)) Q E s:=by
 rw[assign_Tuple]
 refine wpAny_bind (wpAny_standAt ?_)
 unfold unpack
 rw[hn,hstar]
 exact wpAny_bind (wpAny_holding (Rr hh ha h))
end
section
variable {X:Cx}{pos:Pos}
def Zl4 (K:PySem.W.Frag)(n:Nat)(t:Zhj):TG:=fun v σ H Q=>(∃a xs,v=.ref a/\(SqT K H a xs\/SqL K H a xs)/\xs.length=n/\t xs σ H Q)\/∃x:Str,v=.str x/\x.cps.all (·<128)=true/\x.cps.size=n/\t (Ef x) σ H Q
def Zb5 {es:List Expr}{k:Nat}{t:Zhj}{n:Nat}(hc:X.calm=true)(h:Zlc X es t)(hn:(assignEach es X.env).length=n:=by rfl)(N3:(assignEach es X.env).findIdx? (·.1)=none:=by rfl):PG X (.Tuple es k pos) (Zl4 X.K n t):=by
 intro pins s σ H v u Q I r hw
 rcases hw with⟨a,xs,e1,hq,hl,hw⟩|⟨x,e1,ha,hl,hw⟩
 case inr=>
  subst e1
  obtain⟨tk,rfl⟩:=(show ∃t,u=Value.str x t from r)
  refine Pc (I.ok.hd hc) ha (by rw[hn,hl]) N3 fun h' tk us hx hv=>?_
  have I1:Inv X pins σ H {s with heap:=h',toks:=tk}:=I.kept (t':=tk) fun b o e=>hx b o (Nat.ne_of_lt (Heap.lt_size e)) e
  exact h pins _ σ H (Ef x) _ Q I1 hv hw
 subst e1
 cases r
 rcases hq with hq|hq
 ·obtain⟨its,rv,ht,hz⟩:=I.tuple hq
  refine assign_Tuple_tuple (I.ok.hd hc) ht (by simp[hn,<-hl,rv.length]) N3 fun h' hx=>?_
  have I1:Inv X pins σ H {s with heap:=h'}:=I.kept (t':=s.toks) fun b o e=>hx b o (Nat.ne_of_lt (Heap.lt_size e)) e
  exact h pins _ σ H xs _ Q I1 (by simpa using rv) hw
 ·obtain⟨its,rv,ht,hz⟩:=I.list hq
  refine Gw (I.ok.hd hc) ht.isList (by simp[hn,<-hl,rv.length]) N3 fun h' hx=>?_
  have I1:Inv X pins σ H {s with heap:=h'}:=I.kept (t':=s.toks) fun b o e=>hx b o (Nat.ne_of_lt (Heap.lt_size e)) e
  exact h pins _ σ H xs _ Q I1 (by simpa using rv) hw
end
def Zhq (X:Cx)(tg:Expr)(g:D->Zf->M Zf):Prop:=
 ∃t:TG,PG X tg t/\∀(H0:Hp) (B:Addr->Prop) (Hf:Hp) (sd:Zf) (σ:L2.St) (H:Hp) (v:V) (d:D) (sd':Zf) (Q:L2.St->Hp->Prop),SR X.K H0 B Hf sd σ H->Rep X.K Hf d v->g d sd=.ok sd' ->
  (∀σ',SR X.K H0 B Hf sd' σ' H->Q σ' H)->t v σ H Q
def Zfp (X:Cx)(ts:List Expr)(g:List D->Zf->M Zf):Prop:=
 ∃t:Zhj,Zlc X ts t/\∀(H0:Hp) (B:Addr->Prop) (Hf:Hp) (sd:Zf) (σ:L2.St) (H:Hp) (vs:List V) (ds:List D) (sd':Zf) (Q:L2.St->Hp->Prop),SR X.K H0 B Hf sd σ H->Reps X.K Hf ds vs->g ds sd=.ok sd' ->
  (∀σ',SR X.K H0 B Hf sd' σ' H->Q σ' H)->t vs σ H Q
section
variable {X:Cx}{E:XK}{pos:Pos}{a b:Expr}
def Yw (i:Nat)(d:D)(sd:Zf):M Zf:=.ok (sd.set i (some (.im d)))
def Z3 (i:Nat){x:Str}(hN:X.N.Nodup)(hi:X.N[i]?=some x:=by rfl)(hx:Za8 X.env.scope x:=by trivial)(hf:X.fn x=true\/X.env.scope.names.lookup x=some .local:=by first|exact .inl rfl|exact .inr rfl|assumption):
  Zhq X (.Name x pos) (Yw i):=by
 refine⟨_,R1 hN hi hx hf,fun H0 B Hf sd σ H v d sd' Q sr r e h=>?_⟩
 cases e
 exact h _ (sr.set_im i r)
def P9:List D->Zf->M Zf
 |[],sd=>.ok sd
 |_,_=>.bad
def Yk (g:D->Zf->M Zf)(gs:List D->Zf->M Zf):List D->Zf->M Zf
 |d::ds,sd=>(g d sd).bind fun sd'=>gs ds sd'
 |_,_=>.bad
def Gx:Zfp X [] P9:=by
 refine⟨_,Ft,fun H0 B Hf sd σ H vs ds sd' Q sr r e h=>?_⟩
 cases ds with
 |nil=>cases e;exact⟨reps_nil.mp r,h σ sr⟩
 |cons d ds=>cases e
def Ym {es:List Expr}{g:D->Zf->M Zf}{gs:List D->Zf->M Zf}(h1:Zhq X a g)(h2:Zfp X es gs)(hs:(assignEach (a::es) X.env).map (·.2)=assign a X.env::(assignEach es X.env).map (·.2):=by rfl):Zfp X (a::es) (Yk g gs):=by
 obtain⟨t,p,q⟩:=h1
 obtain⟨t2,p2,q2⟩:=h2
 refine⟨_,Sg p p2 hs,fun H0 B Hf sd σ H vs ds sd' Q sr r e h=>?_⟩
 cases ds with
 |nil=>cases e
 |cons d ds=>
  obtain⟨v,vr,rfl,rv,rr⟩:=reps_cons.mp r
  cases e1:g d sd with
  |ok sd1=>
   have e':gs ds sd1=.ok sd':=by
    have e:(g d sd).bind (fun sd'=>gs ds sd')=.ok sd':=e
    rw[e1] at e
    exact e
   exact⟨v,vr,rfl,q H0 B Hf sd σ H v d sd1 _ sr rv e1 fun σ1 sr1=>q2 H0 B Hf sd1 σ1 H vr ds sd' Q sr1 rr e' h⟩
  |ex x=>have e:(g d sd).bind (fun sd'=>gs ds sd')=.ok sd':=e;rw[e1] at e;cases e
  |bad=>have e:(g d sd).bind (fun sd'=>gs ds sd')=.ok sd':=e;rw[e1] at e;cases e
def Gy (n:Nat)(gs:List D->Zf->M Zf):D->Zf->M Zf
 |.tup ds,sd=>if ds.length=n then gs ds sd else .bad
 |.lst ds,sd=>if ds.length=n then gs ds sd else .bad
 |.str x,sd=>if x.cps.size=n/\x.cps.all (·<128)=true then gs (x.cps.toList.map fun c=>.str ⟨#[c]⟩) sd else .bad
 |_,_=>.bad
theorem A9 {K:PySem.W.Frag}{H:Hp}:∀l:List Nat,Reps K H (l.map fun c=>D.str ⟨#[c]⟩) (l.map fun c=>V.str ⟨#[c]⟩)
 |[]=>Reps.nil
 |_::l=>Reps.cons (rep_str.mpr rfl) (A9 l)
def R4 {es:List Expr}{k:Nat}{gs:List D->Zf->M Zf}{n:Nat}(hc:X.calm=true)(h:Zfp X es gs)(hn:(assignEach es X.env).length=n:=by rfl)(N3:(assignEach es X.env).findIdx? (·.1)=none:=by rfl):Zhq X (.Tuple es k pos) (Gy n gs):=by
 obtain⟨t,p,q⟩:=h
 refine⟨_,Zb5 hc p hn N3,fun H0 B Hf sd σ H v d sd' Q sr r e h=>?_⟩
 unfold Gy at e
 split at e
 ·rename_i ds
  split at e
  ·rename_i hl
   obtain⟨a,xs,rfl,ha,hr⟩:=Qc r
   exact .inl ⟨a,xs,rfl,.inl (Same.seqT sr.sub ha),by rw[<-hr.length];exact hl,q H0 B Hf sd σ H xs ds sd' Q sr hr e h⟩
  ·cases e
 ·rename_i ds
  split at e
  ·rename_i hl
   obtain⟨a,xs,rfl,ha,hr⟩:=rep_lst.mp r
   exact .inl ⟨a,xs,rfl,.inr (sr.sub.seq ha),by rw[<-hr.length];exact hl,q H0 B Hf sd σ H xs ds sd' Q sr hr e h⟩
  ·cases e
 ·rename_i x
  split at e
  ·rename_i hl
   exact .inr ⟨x,rep_str.mp r,hl.2,hl.1,q H0 B Hf sd σ H (Ef x) _ sd' Q sr (A9 x.cps.toList) e h⟩
  ·cases e
 ·cases e
def Ca (f:Zf->M D)(g:D->Zf->M Zf)(sd:Zf):M O:=(f sd).bind fun d=>match g d sd with
 |.ok sd'=>.ok (.nx sd')
 |_=>.bad
def Bd {e tg:Expr}{f:Zf->M D}{g:D->Zf->M Zf}(h:Y0 X E e f)(hg:Zhq X tg g)(hs:swapsWithSole [tg] e pos.line X.env=pure false:=by rfl)(hw:swappedStores [tg] e X.env=pure none:=by rfl)(h1:(assignEach [tg] X.env).map (·.2)=[assign tg X.env]:=by rfl):N8 X E (.Assign [tg] e pos) (Ca f g):=by
 obtain⟨t,p,q⟩:=h
 obtain⟨tg',pg,qg⟩:=hg
 refine⟨_,Zio p pg hs hw h1,fun H0 B Hf sd σ H D sr h=>?_⟩
 refine q H0 B Hf sd σ H _ sr (PoS.bind sr h fun d v Hf1 H1 _ g1 sr1 rv h1=>?_)
 split at h1
 ·rename_i sd' e1
  exact qg H0 B Hf1 sd σ H1 v d sd' _ sr1 rv e1 fun σ' sr'=>h1 σ' Hf1 H1 (Same.refl _) sr'
 ·exact h1.elim
def Ox (i j:Nat)(fs:Zf->M (List D))(sd:Zf):M O:=(fs sd).bind fun ds=>match ds with
 |[d,e]=>.ok (.nx ((sd.set i (some (.im d))).set j (some (.im e))))
 |_=>.bad
def Zfq (i j:Nat){x y:Str}{fs:Zf->M (List D)}{px py pt:Pos}{kt k2 pt2}(hc:X.calm=true)(hN:X.N.Nodup)(ha:T3 X E [a,b] fs)(hw:swappedStores [.Tuple [.Name x px,.Name y py] kt pt] (.Tuple [a,b] k2 pt2) X.env=pure (some [x,y]))(hi:X.N[i]?=some x:=by rfl)(hj:X.N[j]?=some y:=by rfl)(hij:i≠j:=by decide)(hx:X.env.scope.names.lookup x=some .local:=by rfl)(hy:X.env.scope.names.lookup y=some .local:=by rfl)(hs:swapsWithSole [.Tuple [.Name x px,.Name y py] kt pt] (.Tuple [a,b] k2 pt2) pos.line X.env=pure false:=by rfl):
  N8 X E (.Assign [.Tuple [.Name x px,.Name y py] kt pt] (.Tuple [a,b] k2 pt2) pos) (Ox i j fs):=by
 obtain⟨t,p,q⟩:=ha
 refine⟨_,Zip hc hN hi hj hij hx hy p hw hs,fun H0 B Hf sd σ H D sr h=>?_⟩
 refine q H0 B Hf sd σ H _ sr (PoS.bind sr h fun ds vs Hf1 H1 _ g1 sr1 rs h1=>?_)
 split at h1
 ·rename_i d e
  obtain⟨v,w,rfl,rv,rw'⟩:=L0 rs
  exact⟨v,w,rfl,h1 _ Hf1 H1 (Same.refl _) ((sr1.set_im i rv).set_im j rw')⟩
 ·exact h1.elim
def S.toD:S->M D
 |.im d=>.ok d
 |.ow ds=>.ok (.lst ds)
 |.od _=>.bad
 |.dk _=>.bad
 |.xc _=>.bad
 |.fn _=>.bad
 |.ob _ _ _=>.bad
 |.fl _ _ _=>.bad
def Sr (K:PySem.W.Frag)(F:List D->M S):Sp:=fun vs H Q _=>∃Hf ds s,Same Hf H/\Reps K Hf ds vs/\F ds=.ok s/\∀v Hf' H',Gr Hf H Hf' H'->RS K H Hf' H' s v->Q v H'
def Gz (r:M O):M S:=r.bind fun o=>match o with
 |.rt s=>.ok s
 |.nx _=>.ok (.im .non)
 |_=>.bad
def V8 (n m:Nat)(f:Zf->M O)(ds:List D):M S:=if ds.length=n then Gz (f (ds.map (fun d=>some (S.im d))++List.replicate m none)) else .bad
def Cb {K:PySem.W.Frag}{N:List Str}{Hf H:Hp}{ds:List D}{vs:List V}{m:Nat}(e:Same Hf H)(r:Reps K Hf ds vs)(hN:N.length=ds.length+m):
  SR K H (fun a=>Lv H a/\Hf a=none) Hf (ds.map (fun d=>some (S.im d))++List.replicate m none) (L2.Xu N vs) H where
 sub:=e
 all:=Same.refl _
 ban:=fun _ h=>h.2
 bt:=fun _ h=>h.1
 len:=by
  unfold L2.Xu
  have:=r.length
  simp only[List.length_append,List.length_map,List.length_replicate]
  lia
 imS:=fun i d hi hz=>by
  unfold L2.Xu
  by_cases hl:i<ds.length
  ·rw[List.getElem?_append_left (by simpa using hl),List.getElem?_map] at hi
   cases q:ds[i]? with
   |none=>rw[q] at hi;cases hi
   |some d'=>
    rw[q] at hi
    cases hi
    obtain⟨v,e1,e2⟩:=r.get q
    refine⟨v,?_,e2⟩
    have:i<vs.length:=(List.getElem?_eq_some_iff.mp e1).1
    rw[List.getElem?_append_left (by simpa using this),List.getElem?_map,e1]
    rfl
  ·rw[List.getElem?_append_right (by simpa using hl),List.getElem?_replicate] at hi
   split at hi<;>cases hi
 ow:=fun i t hi ho=>by
  by_cases hl:i<ds.length
  ·rw[List.getElem?_append_left (by simpa using hl),List.getElem?_map] at hi
   cases q:ds[i]? with
   |none=>rw[q] at hi;cases hi
   |some d'=>rw[q] at hi;cases hi;cases ho
  ·rw[List.getElem?_append_right (by simpa using hl),List.getElem?_replicate] at hi
   split at hi<;>cases hi
 sep:=fun i j t _ p _ hi ho _ _ _ _=>by
  by_cases hl:i<ds.length
  ·rw[List.getElem?_append_left (by simpa using hl),List.getElem?_map] at hi
   cases q:ds[i]? with
   |none=>rw[q] at hi;cases hi
   |some d'=>rw[q] at hi;cases hi;cases ho
  ·rw[List.getElem?_append_right (by simpa using hl),List.getElem?_replicate] at hi
   split at hi<;>cases hi
def Jj {P:Program}{w:World}{K:PySem.W.Frag}{mg:Str->Option Value}{base:Heap}{x qual:Str}{st:Stmt}{f:Addr}{fd:FuncData}{N ps:List Str}{k m n:Nat}{fb:Zf->M O}(F:Fun K x qual st f fd)(sc:FnScope N ps (Zi st))(hn:ps.length=n)(hN:N.length=n+m)(hbody:∀(cdv:Value) (A:Around) (outer:List Env) (s:Shared) (H:Hp) (E:XK),Room k (A.deeper (envOfC qual (Zi st) s.heap.objs.size f cdv)) ->
   Gs (X5 Yd P w K mg base N qual (Zi st) f cdv A outer s H E).nox E0 (Y5 st) fb):FnOk P w K mg base Yd (k+1) f fd ps (Sr K (V8 n m fb)):=by
 refine F.ok sc (fun vs H Q E h=>?_) (fun cdv A outer s H vs Q E hr h=>?_)
 ·obtain⟨Hf,ds,s,e,r,hF,_⟩:=h
  unfold V8 at hF
  split at hF
  ·rename_i hl
   rw[<-r.length,hl,hn]
  ·cases hF
 ·obtain⟨Hf,ds,s',e,r,hF,q⟩:=h
  obtain⟨t,p,qt⟩:=hbody cdv A outer s H E hr
  unfold V8 at hF
  split at hF
  ·rename_i hl
   refine⟨t,p,qt H _ Hf _ (L2.Xu N vs) H _ (Cb (N:=N) (m:=m) e r (by lia)) ?_⟩
   generalize fb (List.map (fun d=>some (S.im d)) ds++List.replicate m none)=ro at hF
   have back:∀{v:V}{Hf' H':Hp}{s:DL.S},Same Hf Hf'->Fin' H (fun a=>Lv H a/\Hf a=none) Hf' H'->RS K H Hf' H' s v->s=s'->Q v H':=fun {v Hf' H' s} e1 e2 e3 e4=>by
    subst e4
    exact q v Hf' H' ⟨e1,e2.sub,e2.all,fun a h1 h2=>e2.ban a ⟨h1,h2⟩⟩ e3
   cases ro with
   |ok o=>
    cases o with
    |rt s2=>
     have e':s2=s':=by cases hF;rfl
     exact fun v Hf' H' e1 e2 e3=>back e1 e2 e3 e'
    |nx sd'=>
     have e':DL.S.im .non=s':=by cases hF;rfl
     exact fun σ' Hf' H' e1 sr'=>back (v:=.non) (s:=DL.S.im .non) e1 sr'.fin (show Rep K Hf' .non .non from rep_non.mpr rfl) e'
    |bk sd'=>cases hF
    |ct sd'=>cases hF
   |ex x=>cases hF
   |bad=>cases hF
  ·cases hF
def Zv (F:List D->M S)(fs:Zf->M (List D))(sd:Zf):M D:=(fs sd).bind fun ds=>match F ds with
 |.ok s=>s.toD
 |_=>.bad
def Xb {k:Nat}{f:Addr}{fd:FuncData}{ps:List Str}{F:List D->M S}{x:Str}{p:Pos}{es:List Expr}{fs:Zf->M (List D)}(G:FnOk X.prog X.w X.K X.mg X.base Yd k f fd ps (Sr X.K F))(hr:Room k X.A)(hm:X.mg x=some (.ref f))(hk:PySem.W.keepIn X.K (.ref f)=true)(hb:Binds X.K fd ps [])(ha:T3 X E (a::es) fs)(hg:Gl X x:=by rfl) (hdb:(x==("__debug__":Str))=false:=by decide) (he:starEach (a::es) X.env=(false,eval a X.env)::starEach es X.env:=by rfl) (hpl:(backTo pos (starEach es X.env)).any (·.1)=false:=by rfl):
  Y0 X E (.Call (.Name x p) (a::es) [] pos) (Zv F fs):=by
 obtain⟨t,pt,qt⟩:=ha
 refine⟨_,Kd (dvs:=[]) (E:=E0) G hr hg hm hk hb .nil Jh pt hdb he hpl,fun H0 B Hf sd σ H Q sr h=>?_⟩
 refine qt H0 B Hf sd σ H _ sr (Po.bind h fun ds vs Hf1 H1 _ g1 rs h1=>?_)
 split at h1
 ·rename_i s e
  refine⟨Hf1,ds,s,g1.sub,by rw[List.append_nil];exact rs,e,fun v Hf' H' g2 rv=>?_⟩
  cases s with
  |im d=>exact h1 v Hf' H' g2 rv
  |ow es=>
   obtain⟨p,rfl,e1,e2,xs,e3,e4⟩:=rv
   refine h1 _ (upd Hf' p (.lst xs)) H' ⟨g2.fz.trans (Qa e2 _),fun b u q=>?_,g2.all,fun a h1 h2=>?_⟩ (rep_lst.mpr ⟨p,xs,rfl,SqL.of Zo,e4.mono (Qa e2 _)⟩)
   ·by_cases hb:b=p
    ·subst hb;rw[Zo] at q;rw[e3];exact q
    ·rw[Zm hb] at q;exact g2.sub b u q
   ·have:a≠p:=fun z=>h1.nn (z▸e1)
    rw[Zm this];exact g2.ban a h1 h2
  |od kvs=>exact h1.elim
  |dk kvs=>exact h1.elim
  |xc x=>exact h1.elim
  |fn x=>exact h1.elim
  |ob a c r=>exact h1.elim
  |fl a g q=>exact h1.elim
 ·exact h1.elim
end
mutual
def D.eq:D->D->Bool
 |.non,.non=>true
 |.bl a,.bl b=>a==b
 |.bl a,.int b=>(if a then 1 else 0)==b
 |.int a,.bl b=>a==(if b then 1 else 0)
 |.int a,.int b=>a==b
 |.str a,.str b=>a==b
 |.tup xs,.tup ys=>D.eqs xs ys
 |.lst xs,.lst ys=>D.eqs xs ys
 |_,_=>false
def D.eqs:List D->List D->Bool
 |[],[]=>true
 |x::xs,y::ys=>D.eq x y&&D.eqs xs ys
 |_,_=>false
end
mutual
def D.dep:D->Nat
 |.tup ds=>D.deps ds+1
 |.lst ds=>D.deps ds+1
 |_=>0
def D.deps:List D->Nat
 |[]=>0
 |d::ds=>max (D.dep d) (D.deps ds)
end
mutual
theorem D.eq_refl:∀d:D,D.eq d d=true
 |.non=>by rw[D.eq]
 |.bl b=>by rw[D.eq];simp
 |.int i=>by rw[D.eq];simp
 |.str x=>by rw[D.eq];simp
 |.tup ds=>by rw[D.eq];exact D.eqs_refl ds
 |.lst ds=>by rw[D.eq];exact D.eqs_refl ds
theorem D.eqs_refl:∀ds:List D,D.eqs ds ds=true
 |[]=>by rw[D.eqs]
 |d::ds=>by rw[D.eqs,D.eq_refl d,D.eqs_refl ds];rfl
end
theorem D.eqs_all:∀ds es:List D,D.eqs ds es=((List.range (min ds.length es.length)).all (fun j=>D.eq (ds.getD j .non) (es.getD j .non))&&ds.length==es.length)
 |[],[]=>by rw[D.eqs];rfl
 |[],_::_=>by rw[D.eqs];simp;all_goals (intros;simp_all)
 |_::_,[]=>by rw[D.eqs];simp;all_goals (intros;simp_all)
 |d::ds,e::es=>by
  have h:min (d::ds).length (e::es).length=min ds.length es.length+1:=by simp only[List.length_cons];lia
  rw[D.eqs,D.eqs_all ds es,h,List.range_succ_eq_map,List.all_cons,List.all_map,Bool.and_assoc]
  congr 1
  simp only[List.length_cons]
  congr 1
  by_cases q:ds.length=es.length
  ·simp[q]
  ·have q':¬ds.length+1=es.length+1:=by lia
   simp[q]
section
variable {X:Cx}{pins:List (Addr×Obj)}{σ:L2.St}{H:Hp}{s:Shared}
def Zb6 (I:Inv X pins σ H s){a:Addr}{xs ys:List V}(h1:SqT X.K H a xs)(h2:SqL X.K H a ys):False:=by
 obtain⟨its,_,⟨o,e,c,_⟩,_⟩:=I.tuple h1
 obtain⟨its2,_,p,_⟩:=I.list h2
 obtain⟨o2,e2,c2,_⟩:=p.isList
 rw[e] at e2
 cases e2
 rw[c] at c2
 exact absurd c2 (by decide)
mutual
theorem G0 (I:Inv X pins σ H s):∀(d d':D) (v:V),Rep X.K H d v->Rep X.K H d' v->d=d'
 |.non,d',v,h1,h2=>by
  rw[rep_non] at h1;subst h1
  cases d' with
  |non=>rfl
  |bl b=>rw[rep_bl] at h2;cases h2
  |int b=>rw[rep_int] at h2;cases h2
  |str b=>rw[rep_str] at h2;cases h2
  |tup b=>rw[rep_tup] at h2;obtain⟨_,_,e,_⟩:=h2;cases e
  |lst b=>rw[rep_lst] at h2;obtain⟨_,_,e,_⟩:=h2;cases e
 |.bl a,d',v,h1,h2=>by
  rw[rep_bl] at h1;subst h1
  cases d' with
  |non=>rw[rep_non] at h2;cases h2
  |bl b=>rw[rep_bl] at h2;cases h2;rfl
  |int b=>rw[rep_int] at h2;cases h2
  |str b=>rw[rep_str] at h2;cases h2
  |tup b=>rw[rep_tup] at h2;obtain⟨_,_,e,_⟩:=h2;cases e
  |lst b=>rw[rep_lst] at h2;obtain⟨_,_,e,_⟩:=h2;cases e
 |.int a,d',v,h1,h2=>by
  rw[rep_int] at h1;subst h1
  cases d' with
  |non=>rw[rep_non] at h2;cases h2
  |bl b=>rw[rep_bl] at h2;cases h2
  |int b=>rw[rep_int] at h2;cases h2;rfl
  |str b=>rw[rep_str] at h2;cases h2
  |tup b=>rw[rep_tup] at h2;obtain⟨_,_,e,_⟩:=h2;cases e
  |lst b=>rw[rep_lst] at h2;obtain⟨_,_,e,_⟩:=h2;cases e
 |.str a,d',v,h1,h2=>by
  rw[rep_str] at h1;subst h1
  cases d' with
  |non=>rw[rep_non] at h2;cases h2
  |bl b=>rw[rep_bl] at h2;cases h2
  |int b=>rw[rep_int] at h2;cases h2
  |str b=>rw[rep_str] at h2;cases h2;rfl
  |tup b=>rw[rep_tup] at h2;obtain⟨_,_,e,_⟩:=h2;cases e
  |lst b=>rw[rep_lst] at h2;obtain⟨_,_,e,_⟩:=h2;cases e
 |.tup ds,d',v,h1,h2=>by
  obtain⟨a,xs,rfl,ha,hr⟩:=Qc h1
  cases d' with
  |non=>rw[rep_non] at h2;cases h2
  |bl b=>rw[rep_bl] at h2;cases h2
  |int b=>rw[rep_int] at h2;cases h2
  |str b=>rw[rep_str] at h2;cases h2
  |tup es=>
   obtain⟨b,ys,e,hb,hr2⟩:=Qc h2
   cases e
   have:=I.tuple_inj ha hb
   subst this
   rw[Ss I ds es xs hr hr2]
  |lst es=>
   obtain⟨b,ys,e,hb,hr2⟩:=rep_lst.mp h2
   cases e
   exact(Zb6 I ha hb).elim
 |.lst ds,d',v,h1,h2=>by
  obtain⟨a,xs,rfl,ha,hr⟩:=rep_lst.mp h1
  cases d' with
  |non=>rw[rep_non] at h2;cases h2
  |bl b=>rw[rep_bl] at h2;cases h2
  |int b=>rw[rep_int] at h2;cases h2
  |str b=>rw[rep_str] at h2;cases h2
  |tup es=>
   obtain⟨b,ys,e,hb,hr2⟩:=Qc h2
   cases e
   exact(Zb6 I hb ha).elim
  |lst es=>
   obtain⟨b,ys,e,hb,hr2⟩:=rep_lst.mp h2
   cases e
   have:=I.list_inj ha hb
   subst this
   rw[Ss I ds es xs hr hr2]
theorem Ss (I:Inv X pins σ H s):∀(ds es:List D) (vs:List V),Reps X.K H ds vs->Reps X.K H es vs->ds=es
 |[],[],_,_,_=>rfl
 |[],e::es,vs,h1,h2=>by
  rw[reps_nil] at h1;subst h1
  obtain⟨_,_,z,_⟩:=reps_cons.mp h2
  cases z
 |d::ds,[],vs,h1,h2=>by
  rw[reps_nil] at h2;subst h2
  obtain⟨_,_,z,_⟩:=reps_cons.mp h1
  cases z
 |d::ds,e::es,vs,h1,h2=>by
  obtain⟨v,r,rfl,a1,a2⟩:=reps_cons.mp h1
  obtain⟨v',r',z,b1,b2⟩:=reps_cons.mp h2
  cases z
  rw[G0 I d e v a1 b1,Ss I ds es r a2 b2]
end
structure Cm (A:Around) (s:Shared) (u v:Value) (b:Bool):Prop where
 rc:SeqAt.RcAt A s u v b
 ne:SeqAt.RcNeAt A s u v (!b)
 eq:SeqAt.EqAt A s u v b
mutual
theorem Su (I:Inv X pins σ H s):∀(x y:D) (A:Around) (v w:V) (u1 u2:Value),A.units+x.dep<cLine->Rep X.K H x v->Rep X.K H y w->RelV v u1->RelV w u2->Cm A s u1 u2 (D.eq x y)
 |.non,y,A,v,w,u1,u2,hu,rx,ry,r1,r2=>by
  rw[rep_non] at rx;subst rx
  have r1:u1=Value.none:=r1
  subst r1
  have hu':A.units<cLine:=by lia
  cases y with
  |non=>rw[rep_non] at ry;subst ry;cases (show u2=Value.none from r2);rw[D.eq];exact⟨.none_none,.none_none,.same _⟩
  |bl b=>rw[rep_bl] at ry;subst ry;cases (show u2=Value.bool b from r2);rw[D.eq];exact⟨.none_bool b,.none_bool b,.none_bool b⟩;all_goals (intros;simp_all)
  |int b=>rw[rep_int] at ry;subst ry;obtain⟨t,q⟩:=(show ∃t,u2=Value.int b t from r2);subst q;rw[D.eq];exact⟨.none_int b t,.none_int b t,.none_int b t⟩;all_goals (intros;simp_all)
  |str b=>rw[rep_str] at ry;subst ry;obtain⟨t,q⟩:=(show ∃t,u2=Value.str b t from r2);subst q;rw[D.eq];exact⟨.none_str b t,.none_str b t,.none_str b t⟩;all_goals (intros;simp_all)
  |tup es=>
   obtain⟨p,xs,rfl,hp,hr⟩:=Qc ry
   cases (show u2=Value.ref p from r2)
   obtain⟨its,_,ht,_⟩:=I.tuple hp
   rw[D.eq]
   exact⟨.none_tuple ht hu',.none_tuple ht hu',.none_tuple ht hu'⟩
   all_goals (intros;simp_all)
  |lst es=>
   obtain⟨p,xs,rfl,hp,hr⟩:=rep_lst.mp ry
   cases (show u2=Value.ref p from r2)
   obtain⟨its,_,ht,_⟩:=I.list hp
   rw[D.eq]
   exact⟨.none_list ht.isList hu',.none_list ht.isList hu',.none_list ht.isList hu'⟩
   all_goals (intros;simp_all)
 |.bl a,y,A,v,w,u1,u2,hu,rx,ry,r1,r2=>by
  rw[rep_bl] at rx;subst rx
  have r1:u1=Value.bool a:=r1
  subst r1
  have hu':A.units<cLine:=by lia
  cases y with
  |non=>rw[rep_non] at ry;subst ry;cases (show u2=Value.none from r2);rw[D.eq];exact⟨.bool_none a,.bool_none a,.bool_none a⟩;all_goals (intros;simp_all)
  |bl b=>rw[rep_bl] at ry;subst ry;cases (show u2=Value.bool b from r2);rw[D.eq];exact⟨.bool_bool a b,.bool_bool a b,.bool_bool a b⟩
  |int b=>rw[rep_int] at ry;subst ry;obtain⟨t,q⟩:=(show ∃t,u2=Value.int b t from r2);subst q;rw[D.eq];exact⟨.bool_int a b t,.bool_int a b t,.bool_int a b t⟩
  |str b=>rw[rep_str] at ry;subst ry;obtain⟨t,q⟩:=(show ∃t,u2=Value.str b t from r2);subst q;rw[D.eq];exact⟨.bool_str a b t,.bool_str a b t,.bool_str a b t⟩;all_goals (intros;simp_all)
  |tup es=>
   obtain⟨p,xs,rfl,hp,hr⟩:=Qc ry
   cases (show u2=Value.ref p from r2)
   obtain⟨its,_,ht,_⟩:=I.tuple hp
   rw[D.eq]
   exact⟨.bool_tuple a ht hu',.bool_tuple a ht hu',.bool_tuple a ht hu'⟩
   all_goals (intros;simp_all)
  |lst es=>
   obtain⟨p,xs,rfl,hp,hr⟩:=rep_lst.mp ry
   cases (show u2=Value.ref p from r2)
   obtain⟨its,_,ht,_⟩:=I.list hp
   rw[D.eq]
   exact⟨.bool_list a ht.isList hu',.bool_list a ht.isList hu',.bool_list a ht.isList hu'⟩
   all_goals (intros;simp_all)
 |.int a,y,A,v,w,u1,u2,hu,rx,ry,r1,r2=>by
  rw[rep_int] at rx;subst rx
  obtain⟨t1,q1⟩:=(show ∃t,u1=Value.int a t from r1)
  subst q1
  have hu':A.units<cLine:=by lia
  cases y with
  |non=>rw[rep_non] at ry;subst ry;cases (show u2=Value.none from r2);rw[D.eq];exact⟨.int_none a t1,.int_none a t1,.int_none a t1⟩;all_goals (intros;simp_all)
  |bl b=>rw[rep_bl] at ry;subst ry;cases (show u2=Value.bool b from r2);rw[D.eq];exact⟨.int_bool a t1 b,.int_bool a t1 b,.int_bool a t1 b⟩
  |int b=>rw[rep_int] at ry;subst ry;obtain⟨t,q⟩:=(show ∃t,u2=Value.int b t from r2);subst q;rw[D.eq];exact⟨.int_int a t1 b t,.int_int a t1 b t,.int_int a t1 b t⟩
  |str b=>rw[rep_str] at ry;subst ry;obtain⟨t,q⟩:=(show ∃t,u2=Value.str b t from r2);subst q;rw[D.eq];exact⟨.int_str a t1 b t,.int_str a t1 b t,.int_str a t1 b t⟩;all_goals (intros;simp_all)
  |tup es=>
   obtain⟨p,xs,rfl,hp,hr⟩:=Qc ry
   cases (show u2=Value.ref p from r2)
   obtain⟨its,_,ht,_⟩:=I.tuple hp
   rw[D.eq]
   exact⟨.int_tuple a t1 ht hu',.int_tuple a t1 ht hu',.int_tuple a t1 ht hu'⟩
   all_goals (intros;simp_all)
  |lst es=>
   obtain⟨p,xs,rfl,hp,hr⟩:=rep_lst.mp ry
   cases (show u2=Value.ref p from r2)
   obtain⟨its,_,ht,_⟩:=I.list hp
   rw[D.eq]
   exact⟨.int_list a t1 ht.isList hu',.int_list a t1 ht.isList hu',.int_list a t1 ht.isList hu'⟩
   all_goals (intros;simp_all)
 |.str a,y,A,v,w,u1,u2,hu,rx,ry,r1,r2=>by
  rw[rep_str] at rx;subst rx
  obtain⟨t1,q1⟩:=(show ∃t,u1=Value.str a t from r1)
  subst q1
  have hu':A.units<cLine:=by lia
  cases y with
  |non=>rw[rep_non] at ry;subst ry;cases (show u2=Value.none from r2);rw[D.eq];exact⟨.str_none a t1,.str_none a t1,.str_none a t1⟩;all_goals (intros;simp_all)
  |bl b=>rw[rep_bl] at ry;subst ry;cases (show u2=Value.bool b from r2);rw[D.eq];exact⟨.str_bool a t1 b,.str_bool a t1 b,.str_bool a t1 b⟩;all_goals (intros;simp_all)
  |int b=>rw[rep_int] at ry;subst ry;obtain⟨t,q⟩:=(show ∃t,u2=Value.int b t from r2);subst q;rw[D.eq];exact⟨.str_int a t1 b t,.str_int a t1 b t,.str_int a t1 b t⟩;all_goals (intros;simp_all)
  |str b=>rw[rep_str] at ry;subst ry;obtain⟨t,q⟩:=(show ∃t,u2=Value.str b t from r2);subst q;rw[D.eq];exact⟨.str_str a t1 b t,.str_str a t1 b t,.str_str a t1 b t⟩
  |tup es=>
   obtain⟨p,xs,rfl,hp,hr⟩:=Qc ry
   cases (show u2=Value.ref p from r2)
   obtain⟨its,_,ht,_⟩:=I.tuple hp
   rw[D.eq]
   exact⟨.str_tuple a t1 ht hu',.str_tuple a t1 ht hu',.str_tuple a t1 ht hu'⟩
   all_goals (intros;simp_all)
  |lst es=>
   obtain⟨p,xs,rfl,hp,hr⟩:=rep_lst.mp ry
   cases (show u2=Value.ref p from r2)
   obtain⟨its,_,ht,_⟩:=I.list hp
   rw[D.eq]
   exact⟨.str_list a t1 ht.isList hu',.str_list a t1 ht.isList hu',.str_list a t1 ht.isList hu'⟩
   all_goals (intros;simp_all)
 |.tup ds,y,A,v,w,u1,u2,hu,rx,ry,r1,r2=>by
  rw[D.dep] at hu
  have hu':A.units<cLine:=by lia
  obtain⟨p1,xs1,rfl,hp1,hr1⟩:=Qc rx
  cases (show u1=Value.ref p1 from r1)
  obtain⟨its1,rv1,ht1,_⟩:=I.tuple hp1
  cases y with
  |non=>rw[rep_non] at ry;subst ry;cases (show u2=Value.none from r2);rw[D.eq];exact⟨.tuple_none ht1 hu',.tuple_none ht1 hu',.tuple_none ht1 hu'⟩;all_goals (intros;simp_all)
  |bl b=>rw[rep_bl] at ry;subst ry;cases (show u2=Value.bool b from r2);rw[D.eq];exact⟨.tuple_bool b ht1 hu',.tuple_bool b ht1 hu',.tuple_bool b ht1 hu'⟩;all_goals (intros;simp_all)
  |int b=>rw[rep_int] at ry;subst ry;obtain⟨t,q⟩:=(show ∃t,u2=Value.int b t from r2);subst q;rw[D.eq];exact⟨.tuple_int b t ht1 hu',.tuple_int b t ht1 hu',.tuple_int b t ht1 hu'⟩;all_goals (intros;simp_all)
  |str b=>rw[rep_str] at ry;subst ry;obtain⟨t,q⟩:=(show ∃t,u2=Value.str b t from r2);subst q;rw[D.eq];exact⟨.tuple_str b t ht1 hu',.tuple_str b t ht1 hu',.tuple_str b t ht1 hu'⟩;all_goals (intros;simp_all)
  |tup es=>
   obtain⟨p2,xs2,rfl,hp2,hr2⟩:=Qc ry
   cases (show u2=Value.ref p2 from r2)
   obtain⟨its2,rv2,ht2,_⟩:=I.tuple hp2
   have l1:its1.toArray.size=ds.length:=by rw[List.size_toArray,<-rv1.length,<-hr1.length]
   have l2:its2.toArray.size=es.length:=by rw[List.size_toArray,<-rv2.length,<-hr2.length]
   have items:=Be I ds es A.in1 xs1 xs2 its1 its2 (by show A.units+1+_<_;lia) hr1 hr2 rv1 rv2
   have he:∀j (h1:j<its1.toArray.size) (h2:j<its2.toArray.size),SeqAt.EqAt A.in1 s its1.toArray[j] its2.toArray[j] (D.eq (ds.getD j .non) (es.getD j .non)):=fun j h1 h2=>by
    refine items j _ _ _ _ ?_ ?_ ?_ ?_
    ·rw[List.getD_eq_getElem?_getD,List.getElem?_eq_getElem (by lia)];simp
    ·rw[List.getD_eq_getElem?_getD,List.getElem?_eq_getElem (by lia)];simp
    ·simp
    ·simp
   have rc:=SeqAt.RcAt.tuples ht1 ht2 hu' he
   have ne:=SeqAt.RcNeAt.tuples ht1 ht2 hu' he
   rw[l1,l2,<-D.eqs_all] at rc ne
   rw[D.eq]
   refine⟨rc,ne,?_⟩
   by_cases hpp:p1=p2
   ·subst hpp
    have:=G0 I _ _ _ rx ry
    cases this
    rw[D.eqs_refl]
    exact .same _
   ·exact .of_refs hpp rc
  |lst es=>
   obtain⟨p2,xs2,rfl,hp2,hr2⟩:=rep_lst.mp ry
   cases (show u2=Value.ref p2 from r2)
   obtain⟨its2,rv2,ht2,_⟩:=I.list hp2
   rw[D.eq]
   exact⟨.tuple_list ht1 ht2.isList hu',.tuple_list ht1 ht2.isList hu',.tuple_list ht1 ht2.isList hu'⟩
   all_goals (intros;simp_all)
 |.lst ds,y,A,v,w,u1,u2,hu,rx,ry,r1,r2=>by
  rw[D.dep] at hu
  have hu':A.units<cLine:=by lia
  obtain⟨p1,xs1,rfl,hp1,hr1⟩:=rep_lst.mp rx
  cases (show u1=Value.ref p1 from r1)
  obtain⟨its1,rv1,pl1,_⟩:=I.list hp1
  have ht1:=pl1.isList
  cases y with
  |non=>rw[rep_non] at ry;subst ry;cases (show u2=Value.none from r2);rw[D.eq];exact⟨.list_none ht1 hu',.list_none ht1 hu',.list_none ht1 hu'⟩;all_goals (intros;simp_all)
  |bl b=>rw[rep_bl] at ry;subst ry;cases (show u2=Value.bool b from r2);rw[D.eq];exact⟨.list_bool b ht1 hu',.list_bool b ht1 hu',.list_bool b ht1 hu'⟩;all_goals (intros;simp_all)
  |int b=>rw[rep_int] at ry;subst ry;obtain⟨t,q⟩:=(show ∃t,u2=Value.int b t from r2);subst q;rw[D.eq];exact⟨.list_int b t ht1 hu',.list_int b t ht1 hu',.list_int b t ht1 hu'⟩;all_goals (intros;simp_all)
  |str b=>rw[rep_str] at ry;subst ry;obtain⟨t,q⟩:=(show ∃t,u2=Value.str b t from r2);subst q;rw[D.eq];exact⟨.list_str b t ht1 hu',.list_str b t ht1 hu',.list_str b t ht1 hu'⟩;all_goals (intros;simp_all)
  |tup es=>
   obtain⟨p2,xs2,rfl,hp2,hr2⟩:=Qc ry
   cases (show u2=Value.ref p2 from r2)
   obtain⟨its2,rv2,ht2,_⟩:=I.tuple hp2
   rw[D.eq]
   exact⟨.list_tuple ht1 ht2 hu',.list_tuple ht1 ht2 hu',.list_tuple ht1 ht2 hu'⟩
   all_goals (intros;simp_all)
  |lst es=>
   obtain⟨p2,xs2,rfl,hp2,hr2⟩:=rep_lst.mp ry
   cases (show u2=Value.ref p2 from r2)
   obtain⟨its2,rv2,pl2,_⟩:=I.list hp2
   have ht2:=pl2.isList
   have l1:its1.toArray.size=ds.length:=by rw[List.size_toArray,<-rv1.length,<-hr1.length]
   have l2:its2.toArray.size=es.length:=by rw[List.size_toArray,<-rv2.length,<-hr2.length]
   have items:=Be I ds es A.in1 xs1 xs2 its1 its2 (by show A.units+1+_<_;lia) hr1 hr2 rv1 rv2
   have he:∀j (h1:j<its1.toArray.size) (h2:j<its2.toArray.size),SeqAt.EqAt A.in1 s its1.toArray[j] its2.toArray[j] (D.eq (ds.getD j .non) (es.getD j .non)):=fun j h1 h2=>by
    refine items j _ _ _ _ ?_ ?_ ?_ ?_
    ·rw[List.getD_eq_getElem?_getD,List.getElem?_eq_getElem (by lia)];simp
    ·rw[List.getD_eq_getElem?_getD,List.getElem?_eq_getElem (by lia)];simp
    ·simp
    ·simp
   have both:SeqAt.RcAt A s (.ref p1) (.ref p2) (D.eqs ds es)/\SeqAt.RcNeAt A s (.ref p1) (.ref p2) (!D.eqs ds es):=by
    by_cases hl:ds.length=es.length
    ·have rc:=SeqAt.RcAt.lists ht1 ht2 (by lia) hu' he
     have ne:=SeqAt.RcNeAt.lists ht1 ht2 (by lia) hu' he
     have e:D.eqs ds es=(List.range its1.toArray.size).all fun j=>D.eq (ds.getD j .non) (es.getD j .non):=by
      rw[D.eqs_all,l1,<-hl,Nat.min_self];simp
     rw[e]
     exact⟨rc,ne⟩
    ·have e:D.eqs ds es=false:=by rw[D.eqs_all];simp[hl]
     rw[e]
     have hs:(its1.toArray.size != its2.toArray.size)=true:=by rw[l1,l2];simpa using hl
     exact⟨.lists_lengths ht1 ht2 hs hu',.lists_lengths ht1 ht2 hs hu'⟩
   rw[D.eq]
   refine⟨both.1,both.2,?_⟩
   by_cases hpp:p1=p2
   ·subst hpp
    have:=G0 I _ _ _ rx ry
    cases this
    rw[D.eqs_refl]
    exact .same _
   ·exact .of_refs hpp both.1
theorem Be (I:Inv X pins σ H s):∀(ds es:List D) (A:Around) (vs ws:List V) (us1 us2:List Value),A.units+D.deps ds<cLine->Reps X.K H ds vs->Reps X.K H es ws->Vals vs us1->Vals ws us2 ->
  ∀(j:Nat) (d e:D) (u1 u2:Value),ds[j]?=some d->es[j]?=some e->us1[j]?=some u1->us2[j]?=some u2->SeqAt.EqAt A s u1 u2 (D.eq d e)
 |[],_,_,_,_,_,_,_,_,_,_,_,j,_,_,_,_,h,_,_,_=>by simp at h
 |_::_,[],_,_,_,_,_,_,_,_,_,_,j,_,_,_,_,_,h,_,_=>by simp at h
 |d0::ds,e0::es,A,vs,ws,us1,us2,hu,r1,r2,v1,v2,j,d,e,u1,u2,h1,h2,h3,h4=>by
  rw[D.deps] at hu
  obtain⟨x,xr,rfl,a1,a2⟩:=reps_cons.mp r1
  obtain⟨y,yr,rfl,b1,b2⟩:=reps_cons.mp r2
  cases v1 with
  |cons c1 c2=>
   cases v2 with
   |cons d1 d2=>
    cases j with
    |zero=>
     simp at h1 h2 h3 h4
     subst h1 h2 h3 h4
     exact(Su I d0 e0 A x y _ _ (by lia) a1 b1 c1 d1).eq
    |succ j=>
     simp at h1 h2 h3 h4
     exact Be I ds es A xr yr _ _ (by lia) a2 b2 c2 d2 j d e u1 u2 h1 h2 h3 h4
end
end
section
variable {X:Cx}{E:XK}{pos:Pos}{a b:Expr}
def Jw (x y:D):M D:=if x.dep<=60 then .ok (.bl (D.eq x y)) else .bad
def Ww (x y:D):M D:=if x.dep<=60 then .ok (.bl (!D.eq x y)) else .bad
def Ye (hu:X.A.units+64<cLine):N9 X E (compareOp .Eq) Jw:=by
 refine⟨fun x y H Q=>∃dx dy,Rep X.K H dx x/\Rep X.K H dy y/\dx.dep<=60/\Q (.bl (D.eq dx dy)) H,fun pins s σ H x y v u Q I rx ry h=>?_,fun Hf H x y dx dy Q e rx ry q=>?_⟩
 ·obtain⟨dx,dy,h1,h2,h3,q⟩:=h
  exact(Su I dx dy X.A x y v u (by lia) h1 h2 rx ry).rc _ _ _ _ ⟨.bl _,H,I,rfl,q⟩
 ·unfold Jw at q
  split at q
  ·rename_i hd
   exact⟨dx,dy,rx.mono e,ry.mono e,hd,Po.ret e q (rep_bl.mpr rfl)⟩
  ·exact q.elim
def Wz (hu:X.A.units+64<cLine):N9 X E (compareOp .NotEq) Ww:=by
 refine⟨fun x y H Q=>∃dx dy,Rep X.K H dx x/\Rep X.K H dy y/\dx.dep<=60/\Q (.bl (!D.eq dx dy)) H,fun pins s σ H x y v u Q I rx ry h=>?_,fun Hf H x y dx dy Q e rx ry q=>?_⟩
 ·obtain⟨dx,dy,h1,h2,h3,q⟩:=h
  exact(Su I dx dy X.A x y v u (by lia) h1 h2 rx ry).ne _ _ _ _ ⟨.bl _,H,I,rfl,q⟩
 ·unfold Ww at q
  split at q
  ·rename_i hd
   exact⟨dx,dy,rx.mono e,ry.mono e,hd,Po.ret e q (rep_bl.mpr rfl)⟩
  ·exact q.elim
end
def Zo8:D->String
 |.non=>"NoneType"
 |.bl _=>"bool"
 |.int _=>"int"
 |.str _=>"str"
 |.tup _=>"tuple"
 |.lst _=>"list"
def Zna (T:String):D->Bool
 |.non=>false
 |.bl _=>T=="bool" || T=="int"
 |.int _=>T=="int"
 |.str _=>T=="str"
 |.tup _=>T=="tuple"
 |.lst _=>T=="list"
def Zjf (K:PySem.W.Frag)(d:D){T:String} (hT:T∈["int","bool","tuple","list","str"]):PySem.W.kitOne K (.type (Zo8 d)) (.type T)=some (Zna T d):=by
 simp only[List.mem_cons,List.not_mem_nil,or_false] at hT
 rcases hT with rfl|rfl|rfl|rfl|rfl<;>cases d<;>rfl
section
variable {X:Cx}{E:XK}{pos:Pos}{a b:Expr}
def Cc {T:String} (hT:T∈["int","bool","tuple","list","str"]):CallR X (.builtin "isinstance") (fun xs H Q=>∃x d,xs=[x,.ty T]/\Rep X.K H d x/\Q (.bl (Zna T d)) H):=by
 intro pins s σ H xs us Q I r h
 obtain⟨x,d,rfl,hx,q⟩:=h
 obtain⟨u,w',rfl,r1,r2⟩:=Sj r
 cases (show w'=Value.type T from r2)
 have e:=Zjf X.K d hT
 have fin:∀tk,EP X pins σ Q (.bool (Zna T d)) {s with toks:=tk}:=fun tk=>⟨.bl _,H,I.tok _,rfl,q⟩
 cases d with
 |non=>rw[rep_non] at hx;subst hx;cases (show u=Value.none from r1);exact PySem.W.kia_one PySem.W.kitx_none I.kIn True.intro e (fun z=>nomatch z) fin
 |bl y=>rw[rep_bl] at hx;subst hx;cases (show u=Value.bool y from r1);exact PySem.W.kia_one PySem.W.kitx_bool I.kIn True.intro e (fun z=>nomatch z) fin
 |int y=>rw[rep_int] at hx;subst hx;obtain⟨t,z⟩:=(show ∃t,u=Value.int y t from r1);subst z;exact PySem.W.kia_one PySem.W.kitx_int I.kIn True.intro e (fun z=>nomatch z) fin
 |str y=>rw[rep_str] at hx;subst hx;obtain⟨t,z⟩:=(show ∃t,u=Value.str y t from r1);subst z;exact PySem.W.kia_one PySem.W.kitx_str I.kIn True.intro e (fun z=>nomatch z) fin
 |tup ds=>
  obtain⟨p,ys,rfl,hp,hr⟩:=Qc hx
  cases (show u=Value.ref p from r1)
  obtain⟨its,_,⟨o,h1,h2,_⟩,_⟩:=I.tuple hp
  exact PySem.W.kia_one PySem.W.kitx_tuple I.kIn ⟨o,h1,h2⟩ e (fun z=>nomatch z) fin
 |lst ds=>
  obtain⟨p,ys,rfl,hp,hr⟩:=rep_lst.mp hx
  cases (show u=Value.ref p from r1)
  obtain⟨its,_,pl,_⟩:=I.list hp
  obtain⟨o,h1,h2,_⟩:=pl.isList
  exact PySem.W.kia_one PySem.W.kitx_list I.kIn ⟨o,h1,h2⟩ e (fun z=>nomatch z) fin
def D0 (T:String)(f:Zf->M D)(sd:Zf):M D:=(f sd).bind fun d=>.ok (.bl (Zna T d))
def Xq (T:String){p p2:Pos}{f:Zf->M D} (hg:Gl X "isinstance") (hm:X.mg "isinstance"=none) (hmT:X.mg (Str.ofString T)=none) (hgT:Gl X (Str.ofString T)) (hvT:bootBuiltins (Str.ofString T)=some (.type T)) (h:Y0 X E a f)
  (hT:T∈["int","bool","tuple","list","str"]:=by decide) (hnT:(Str.ofString T) ≠ "__name__":=by decide) (hdT:((Str.ofString T)==("__debug__":Str))=false:=by decide)
  (he:starEach [a,.Name (Str.ofString T) p2] X.env=(false,eval a X.env)::starEach [.Name (Str.ofString T) p2] X.env:=by rfl) (he2:starEach [.Name (Str.ofString T) p2] X.env=(false,eval (.Name (Str.ofString T) p2) X.env)::starEach [] X.env:=by rfl)
  (hpl:(backTo pos (starEach [.Name (Str.ofString T) p2] X.env)).any (·.1)=false:=by rfl) (hv:bootBuiltins "isinstance"=some (.builtin "isinstance"):=by rfl):
  Y0 X E (.Call (.Name "isinstance" p) [a,.Name (Str.ofString T) p2] [] pos) (D0 T f):=by
 obtain⟨t,pt,qt⟩:=h
 refine⟨_,Ay (Cc hT) hg hm hv (Qh pt (Qh (Zew (v:=.ty T) hgT hmT hvT rfl hnT hdT) Xa he2) he) (by decide) (by decide) he hpl,fun H0 B Hf sd σ H Q sr h=>?_⟩
 refine qt H0 B Hf sd σ H _ sr (Po.bind h fun d v Hf1 H1 _ g1 rv h1=>?_)
 exact⟨v,d,rfl,Rep.mono g1.sub rv,Po.ret (R:=rV X.K) g1.sub h1 (rep_bl.mpr rfl)⟩
def X3:List D->Option (List Bool)
 |[]=>some []
 |.bl b::r=>(X3 r).map (b::·)
 |_::_=>none
theorem V9 {K:PySem.W.Frag}{H:Hp}:∀{ds:List D}{bs:List Bool}{xs:List V},X3 ds=some bs->Reps K H ds xs->xs=bs.map V.bl
 |[],bs,xs,e,r=>by
  rw[reps_nil.mp r]
  cases e
  rfl
 |.bl b::ds,bs,xs,e,r=>by
  obtain⟨x,t,rfl,h1,h2⟩:=reps_cons.mp r
  unfold X3 at e
  cases q:X3 ds with
  |none=>rw[q] at e;cases e
  |some cs=>
   rw[q] at e
   cases e
   rw[rep_bl.mp h1,V9 q h2]
   rfl
 |.non::_,_,_,e,_=>by cases e
 |.int _::_,_,_,e,_=>by cases e
 |.str _::_,_,_,e,_=>by cases e
 |.tup _::_,_,_,e,_=>by cases e
 |.lst _::_,_,_,e,_=>by cases e
def F2 {bs:List Bool}:∀{us:List Value},Vals (bs.map V.bl) us->us=bs.map Value.bool:=by
 induction bs with
 |nil=>intro us r;cases r;rfl
 |cons b bs ih=>
  intro us r
  cases r with
  |cons r1 r2=>rw[ih r2];cases (show _=Value.bool b from r1);rfl
def Eg (bs:List Bool):((List.range bs.length).all fun i=>(bs[i]?).getD true)=bs.all id:=by
 induction bs with
 |nil=>rfl
 |cons b bs ih=>
  rw[List.length_cons,List.range_succ_eq_map,List.all_cons,List.all_map,List.all_cons]
  have:(((fun i=>((b::bs)[i]?).getD true)∘Nat.succ):Nat->Bool)=fun i=>(bs[i]?).getD true:=by funext i;simp
  rw[this,ih]
  simp
def Eh (bs:List Bool):((List.range bs.length).any fun i=>(bs[i]?).getD false)=bs.any id:=by
 induction bs with
 |nil=>rfl
 |cons b bs ih=>
  rw[List.length_cons,List.range_succ_eq_map,List.any_cons,List.any_map,List.any_cons]
  have:(((fun i=>((b::bs)[i]?).getD false)∘Nat.succ):Nat->Bool)=fun i=>(bs[i]?).getD false:=by funext i;simp
  rw[this,ih]
  simp
def F3 {s:Shared}{h':Heap}{o:Obj}(hk:∀b x,b ∉ [s.heap.objs.size]->(s.heap.push o).get? b=some x->h'.get? b=some x):∀b x,s.heap.get? b=some x->h'.get? b=some x:=
 fun b x e=>hk b x (fun hm=>by rw[List.mem_singleton.mp hm] at e;exact Nat.lt_irrefl _ (Heap.lt_size e)) (Heap.get?_push_of_some _ e)
def Oy (hc:X.calm=true):CallR X (.builtin "all") (fun xs H Q=>∃(p:Addr) (bs:List Bool),xs=[.ref p]/\SqL X.K H p (bs.map V.bl)/\Q (.bl (bs.all id)) H):=by
 intro pins s σ H xs us Q I r h
 obtain⟨p,bs,rfl,hp,q⟩:=h
 obtain⟨u,rfl,rx⟩:=Us r
 cases rx
 obtain⟨its,rv,pl,_⟩:=I.list hp
 have hl:=pl.isList
 have ei:=F2 rv
 have hlt:p<s.heap.objs.size:=by obtain⟨_,e,_⟩:=hl;exact Heap.lt_size e
 refine call_all_walk (wpAny_pyIter_list hl ?_)
 refine⟨s.heap.objs.size,[s.heap.objs.size,p],[s.heap.objs.size],its.toArray.size,_,_,fun i=>(bs[i]?).getD true,rfl,Walks.list (A:=X.A.in1) (I.ok.hd hc) _ p (Nat.ne_of_lt hlt) its.toArray,
  ⟨⟨_,Heap.get?_push_size _ rfl,rfl,rfl⟩,hl.push _⟩,fun i v s' Q' E' hP hQ=>?_,fun h' tk hk=>?_⟩
 ·have hv:its[i]?=some v:=by simpa using hP
  rw[ei,List.getElem?_map] at hv
  cases eb:bs[i]? with
  |none=>rw[eb] at hv;cases hv
  |some b=>
   rw[eb] at hv
   cases hv
   simp only[eb,Option.getD_some] at hQ
   exact wpAny_truthy_bool hQ
 ·have e:((List.range its.toArray.size).all fun i=>(bs[i]?).getD true)=bs.all id:=by
   rw[List.size_toArray,ei,List.length_map];exact Eg bs
  rw[e]
  exact⟨.bl _,H,I.kept (F3 hk),rfl,q⟩
def Oz (hc:X.calm=true):CallR X (.builtin "any") (fun xs H Q=>∃(p:Addr) (bs:List Bool),xs=[.ref p]/\SqL X.K H p (bs.map V.bl)/\Q (.bl (bs.any id)) H):=by
 intro pins s σ H xs us Q I r h
 obtain⟨p,bs,rfl,hp,q⟩:=h
 obtain⟨u,rfl,rx⟩:=Us r
 cases rx
 obtain⟨its,rv,pl,_⟩:=I.list hp
 have hl:=pl.isList
 have ei:=F2 rv
 have hlt:p<s.heap.objs.size:=by obtain⟨_,e,_⟩:=hl;exact Heap.lt_size e
 refine call_any_walk (wpAny_pyIter_list hl ?_)
 refine⟨s.heap.objs.size,[s.heap.objs.size,p],[s.heap.objs.size],its.toArray.size,_,_,fun i=>(bs[i]?).getD false,rfl,Walks.list (A:=X.A.in1) (I.ok.hd hc) _ p (Nat.ne_of_lt hlt) its.toArray,
  ⟨⟨_,Heap.get?_push_size _ rfl,rfl,rfl⟩,hl.push _⟩,fun i v s' Q' E' hP hQ=>?_,fun h' tk hk=>?_⟩
 ·have hv:its[i]?=some v:=by simpa using hP
  rw[ei,List.getElem?_map] at hv
  cases eb:bs[i]? with
  |none=>rw[eb] at hv;cases hv
  |some b=>
   rw[eb] at hv
   cases hv
   simp only[eb,Option.getD_some] at hQ
   exact wpAny_truthy_bool hQ
 ·have e:((List.range its.toArray.size).any fun i=>(bs[i]?).getD false)=bs.any id:=by
   rw[List.size_toArray,ei,List.length_map];exact Eh bs
  rw[e]
  exact⟨.bl _,H,I.kept (F3 hk),rfl,q⟩
def O0:List D->M D
 |[.lst ds]=>match X3 ds with
  |some bs=>.ok (.bl (bs.all id))
  |none=>.bad
 |_=>.bad
def Zfr:List D->M D
 |[.lst ds]=>match X3 ds with
  |some bs=>.ok (.bl (bs.any id))
  |none=>.bad
 |_=>.bad
def Zb7 (hc:X.calm=true):Vy X E (.builtin "all") O0:=by
 refine⟨_,Oy hc,fun Hf H xs ds Q e r q=>?_⟩
 unfold O0 at q
 split at q
 ·split at q
  ·rename_i bs hb
   obtain⟨x,rfl,h⟩:=Kg r
   obtain⟨p,ys,rfl,hp,hr⟩:=rep_lst.mp h
   have:=V9 hb hr
   subst this
   exact⟨p,bs,rfl,e.seq hp,Po.ret e q (rep_bl.mpr rfl)⟩
  ·exact q.elim
 ·exact q.elim
def Zjg (hc:X.calm=true):Vy X E (.builtin "any") Zfr:=by
 refine⟨_,Oz hc,fun Hf H xs ds Q e r q=>?_⟩
 unfold Zfr at q
 split at q
 ·split at q
  ·rename_i bs hb
   obtain⟨x,rfl,h⟩:=Kg r
   obtain⟨p,ys,rfl,hp,hr⟩:=rep_lst.mp h
   have:=V9 hb hr
   subst this
   exact⟨p,bs,rfl,e.seq hp,Po.ret e q (rep_bl.mpr rfl)⟩
  ·exact q.elim
 ·exact q.elim
def Ei (x:Int):List Int->List Int
 |[]=>[x]
 |y::r=>if x<=y then x::y::r else y::Ei x r
def K6:List Int->List Int
 |[]=>[]
 |x::r=>Ei x (K6 r)
theorem Pd (x:Int):∀l:List Int,(Ei x l).Perm (x::l)
 |[]=>List.Perm.refl _
 |y::r=>by
  unfold Ei
  split
  ·exact List.Perm.refl _
  ·exact((Pd x r).cons y).trans (List.Perm.swap x y r)
theorem Ua:∀l:List Int,(K6 l).Perm l
 |[]=>List.Perm.refl _
 |x::r=>(Pd x _).trans ((Ua r).cons x)
theorem Ra (x:Int):∀l:List Int,l.Pairwise (·<=·)->(Ei x l).Pairwise (·<=·)
 |[],_=>by simp[Ei]
 |y::r,h=>by
  obtain⟨h1,h2⟩:=List.pairwise_cons.mp h
  unfold Ei
  split
  ·rename_i hxy
   refine List.pairwise_cons.mpr ⟨fun z hz=>?_,h⟩
   rcases List.mem_cons.mp hz with rfl|hz
   ·exact hxy
   ·exact Int.le_trans hxy (h1 z hz)
  ·rename_i hxy
   refine List.pairwise_cons.mpr ⟨fun z hz=>?_,Ra x r h2⟩
   rcases List.mem_cons.mp ((Pd x r).mem_iff.mp hz) with rfl|hz
   ·lia
   ·exact h1 z hz
theorem Ub:∀l:List Int,(K6 l).Pairwise (·<=·)
 |[]=>List.Pairwise.nil
 |x::r=>Ra x _ (Ub r)
def U6:List D->Option (List Int)
 |[]=>some []
 |.int b::r=>(U6 r).map (b::·)
 |_::_=>none
theorem Rb {K:PySem.W.Frag}{H:Hp}:∀{ds:List D}{bs:List Int}{xs:List V},U6 ds=some bs->Reps K H ds xs->xs=bs.map V.int
 |[],bs,xs,e,r=>by
  rw[reps_nil.mp r]
  cases e
  rfl
 |.int b::ds,bs,xs,e,r=>by
  obtain⟨x,t,rfl,h1,h2⟩:=reps_cons.mp r
  unfold U6 at e
  cases q:U6 ds with
  |none=>rw[q] at e;cases e
  |some cs=>
   rw[q] at e
   cases e
   rw[rep_int.mp h1,Rb q h2]
   rfl
 |.non::_,_,_,e,_=>by cases e
 |.bl _::_,_,_,e,_=>by cases e
 |.str _::_,_,_,e,_=>by cases e
 |.tup _::_,_,_,e,_=>by cases e
 |.lst _::_,_,_,e,_=>by cases e
theorem G8 {K:PySem.W.Frag}{H:Hp}:∀ns:List Int,Reps K H (ns.map D.int) (ns.map V.int)
 |[]=>Reps.nil
 |_::ns=>Reps.cons (rep_int.mpr rfl) (G8 ns)
def Bf:CallR X (.builtin "sorted") (fun xs H Q=>∃(p:Addr) (ns:List Int),xs=[.ref p]/\SqL X.K H p (ns.map V.int)/\ns.length<64/\∀l,H l=none->Q (.ref l) (upd H l (.lst ((K6 ns).map V.int)))):=by
 intro pins s σ H xs us Q I r h
 obtain⟨p,ns,rfl,hp,hl,q⟩:=h
 obtain⟨u,rfl,rx⟩:=Us r
 cases rx
 obtain⟨its,rv,pl,hz⟩:=I.list hp
 have hi:IntsAre its ns:=Ec rv
 have hlen:its.length=ns.length:=by rw[<-rv.length,List.length_map]
 refine sorted_ints pl.isList hi (by lia) fun out ns' a1 a2 a3=>?_
 have e:ns'=K6 ns:=PySem.W.ksm_same (a2.trans (Ua ns).symm) a3 (Ub ns)
 subst e
 obtain⟨n,he⟩:=sortedAll_at s.heap its out
 refine⟨.ref (s.heap.objs.size+1),_,I.laid (t':=s.toks) (o:=.lst ((K6 ns).map V.int)) (fun b o e=>sortedAll_old e) (Nat.le_succ _) ?_,rfl,q _ (I.hok.fresh (Nat.le_succ _))⟩
 refine⟨?_,out.toList,n,N7 a1,he⟩
 rw[List.length_map,(Ua ns).length_eq,<-List.length_map (f:=V.int)]
 exact hz
def R5:List D->M D
 |[.lst ds]=>match U6 ds with
  |some ns=>if ns.length<64 then .ok (.lst ((K6 ns).map D.int)) else .bad
  |none=>.bad
 |_=>.bad
def O1:Vy X E (.builtin "sorted") R5:=by
 refine⟨_,Bf,fun Hf H xs ds Q e r q=>?_⟩
 unfold R5 at q
 split at q
 ·split at q
  ·rename_i ns hb
   split at q
   ·rename_i hl
    obtain⟨x,rfl,h⟩:=Kg r
    obtain⟨p,ys,rfl,hp,hr⟩:=rep_lst.mp h
    have:=Rb hb hr
    subst this
    exact⟨p,ns,rfl,e.seq hp,hl,fun l hl=>q _ _ _ (Gr.alloc e hl _) (Gr.lst e hl (G8 _))⟩
   ·exact q.elim
  ·exact q.elim
 ·exact q.elim
def op_catS:OpR X (binaryOp .Add) (fun x y H Q=>∃l b xs zs,x=.ref l/\y=.ref b/\SqL X.K H l xs/\SqL X.K H b zs/\xs.length+zs.length<=sizeLine/\∀p,H p=none->Q (.ref p) (upd H p (.lst (xs++zs)))):=by
 intro pins s σ H x y v u Q I rx ry h
 obtain⟨l,b,xs,zs,rfl,rfl,hH,hB,hz,q⟩:=h
 cases rx
 cases ry
 obtain⟨its,r,pl,z⟩:=I.list hH
 obtain⟨its2,r2,pl2,z2⟩:=I.list hB
 have l1:=r.length
 have l2:=r2.length
 obtain⟨⟨cls,dd,data,sl⟩,ho,hc,n,hd⟩:=pl.isList
 obtain⟨⟨cls2,dd2,data2,sl2⟩,ho2,hc2,n2,hd2⟩:=pl2.isList
 simp only at hc hd hc2 hd2
 subst hc hd hc2 hd2
 have e:its.toArray++its2.toArray=(its++its2).toArray:=by simp
 refine concat_meets ⟨_,ho,rfl⟩ ⟨_,ho2,rfl⟩ noFill_list_add seq_list_add PySem.F.slot_list_add PySem.F.entry_list_add (PySem.F.args_list_add_2 _ _) (list_addW l b its.toArray its2.toArray n n2 dd dd2 sl sl2 (by rw[List.size_toArray,List.size_toArray];lia)) ⟨ho,ho2,?_⟩
 rw[e]
 exact⟨.ref _,_,I.lnew (t':=s.toks) (r.append r2) (by rw[List.length_append];lia),rfl,q _ I.fresh⟩
def Qg:D->D->M D
 |.int i,.int j=>.ok (.int (i+j))
 |.lst xs,.lst ys=>if few (xs++ys) then .ok (.lst (xs++ys)) else .bad
 |.tup (x::xs),.tup ys=>if few (x::xs++ys) then .ok (.tup (x::xs++ys)) else .bad
 |.str i,.str j=>if i.length+j.length<=sizeLine then .ok (.str (i++j)) else .bad
 |_,_=>.bad
def Qu:N9 X E (binaryOp .Add) Qg:=by
 refine⟨_,op_add.or (op_catS.or (op_catT.or D5)),fun Hf H x y dx dy Q e rx ry q=>?_⟩
 unfold Qg at q
 split at q
 ·rename_i i j
  exact .inl ⟨i,j,rep_int.mp rx,rep_int.mp ry,Po.ret e q (rep_int.mpr rfl)⟩
 ·rename_i xs ys
  split at q
  ·rename_i hf
   obtain⟨p1,us,rfl,h1,r1⟩:=rep_lst.mp rx
   obtain⟨p2,ws,rfl,h2,r2⟩:=rep_lst.mp ry
   have hl:=U3 hf (r1.append r2)
   rw[List.length_append] at hl
   exact .inr (.inl ⟨p1,p2,us,ws,rfl,rfl,e.seq h1,e.seq h2,hl,fun p hp=>q _ _ _ (Gr.alloc e hp _) (Gr.lst e hp (r1.append r2))⟩)
  ·exact q.elim
 ·rename_i x0 xs ys
  split at q
  ·rename_i hf
   obtain⟨p1,us,rfl,h1,r1⟩:=Qc rx
   obtain⟨p2,ws,rfl,h2,r2⟩:=Qc ry
   have hl:=U3 hf (r1.append r2)
   rw[List.length_append] at hl
   have hne:us≠[]:=fun z=>by
    have:=r1.length
    rw[z] at this
    cases this
   refine .inr (.inr (.inl ⟨p1,p2,us,ws,rfl,rfl,Same.seqT e h1,Same.seqT e h2,hne,hl,fun z=>?_,fun _ p hp=>q _ _ _ (Gr.alloc e hp _) (Gr.tup e hp (r1.append r2))⟩))
   subst z
   have:ys=[]:=List.length_eq_zero_iff.mp r2.length
   subst this
   rw[List.append_nil] at q
   exact Po.ret e q rx
  ·exact q.elim
 ·rename_i i j
  split at q
  ·rename_i hl
   exact .inr (.inr (.inr ⟨i,j,rep_str.mp rx,rep_str.mp ry,hl,Po.ret e q (rep_str.mpr rfl)⟩))
  ·exact q.elim
 ·exact q.elim
def Zs:D->D->M D:=Zl2
def Z5:N9 X E (binaryOp .Mult) Zs:=Zja
def Ej (ds:List D)(lo hi:Option Int):List D:=(ds.drop (HT.sIx ds.length 0 lo)).take (HT.sIx ds.length ds.length hi-HT.sIx ds.length 0 lo)
def Cd {K:PySem.W.Frag}{H:Hp}{ds:List D}{xs:List V}(r:Reps K H ds xs)(lo hi:Option Int):Reps K H (Ej ds lo hi) (Az xs lo hi):=by
 unfold Ej Az
 rw[<-r.length]
 exact(r.drop _).take _
def Zot:D->Option Int->Option Int->M D
 |.lst ds,lo,hi=>.ok (.lst (Ej ds lo hi))
 |.tup ds,lo,hi=>if HT.sIx ds.length 0 lo=0/\HT.sIx ds.length ds.length hi=ds.length then .bad else .ok (.tup (Ej ds lo hi))
 |_,_,_=>.bad
def Kp (_:Zf):M (Option Int):=.ok none
def Xd (f:Zf->M D)(sd:Zf):M (Option Int):=(f sd).bind fun d=>match d with
 |.int i=>.ok (some i)
 |_=>.bad
def K7:Zm9 X E none Kp:=⟨_,Zfa,fun _ _ _ _ _ _ _ sr h=>Po.ret (R:=rQ) sr.sub h rfl⟩
def Jk {e:Expr}{f:Zf->M D}(h:Y0 X E e f):Zm9 X E (some e) (Xd f):=by
 obtain⟨t,p,q⟩:=h
 refine⟨_,Zfb p,fun H0 B Hf sd σ H Q sr h=>?_⟩
 refine q H0 B Hf sd σ H _ sr (Po.bind h fun d v Hf1 H1 _ g1 rv h1=>?_)
 split at h1
 ·exact⟨_,rep_int.mp rv,Po.ret (R:=rQ) g1.sub h1 rfl⟩
 ·exact h1.elim
def L5 (f:Zf->M D)(lo hi:Zf->M (Option Int))(sd:Zf):M D:=(f sd).bind fun d=>(lo sd).bind fun l=>(hi sd).bind fun h=>Zot d l h
def Ki {e:Expr}{lo hi:Option Expr}{p2:Pos}{f:Zf->M D}{fl fh:Zf->M (Option Int)}(h:Y0 X E e f)(hl:Zm9 X E lo fl)(hh:Zm9 X E hi fh):Y0 X E (.Subscript e (.Slice lo hi none p2) pos) (L5 f fl fh):=by
 obtain⟨t,p,q⟩:=h
 obtain⟨tl,pl,ql⟩:=hl
 obtain⟨th,ph,qh⟩:=hh
 refine⟨_,Zbo (sl_list.or Ziz) p pl ph,fun H0 B Hf sd σ H Q sr h=>?_⟩
 refine q H0 B Hf sd σ H _ sr (Po.bind h fun d v Hf1 H1 _ g1 rv h1=>?_)
 refine ql H0 B Hf1 sd σ H1 _ (sr.gr g1) (Po.bind h1 fun l l' Hf2 H2 _ g2 el h2=>?_)
 have el:l=l':=el
 subst el
 refine qh H0 B Hf2 sd σ H2 _ ((sr.gr g1).gr g2) (Po.bind h2 fun u u' Hf3 H3 _ g3 eu h3=>?_)
 have eu:u=u':=eu
 subst eu
 have rv3:=(Rep.mono g3.fz (Rep.mono g2.fz rv))
 unfold Zot at h3
 split at h3
 ·rename_i ds
  obtain⟨a,xs,rfl,ha,hr⟩:=rep_lst.mp rv3
  exact .inl ⟨a,xs,rfl,g3.sub.seq ha,fun p hp=>h3 _ _ _ (Gr.alloc g3.sub hp _) (Gr.lst g3.sub hp (Cd hr _ _))⟩
 ·rename_i ds
  split at h3
  ·exact h3.elim
  ·rename_i hw
   obtain⟨a,xs,rfl,ha,hr⟩:=Qc rv3
   exact .inr ⟨a,xs,rfl,Same.seqT g3.sub ha,by rw[<-hr.length];exact hw,fun p hp=>h3 _ _ _ (Gr.alloc g3.sub hp _) (Gr.tup g3.sub hp (Cd hr _ _))⟩
 ·exact h3.elim
def Rs (K:PySem.W.Frag)(Hf _H:Hp)(ds:List D)(J:It):Prop:=∀(i:Nat) (Hf1 H1:Hp),Same Hf Hf1->Same Hf1 H1->match ds[i]? with
 |some d=>J.go i H1/\∀x H2,J.yld i H1 x H2->∃Hf2,Gr Hf1 H1 Hf2 H2/\Rep K Hf2 d x
 |none=>J.stop i H1
def Zhr (X:Cx)(E:XK)(tg iter:Expr)(fi:Zf->M (List D)):Prop:=
 ∃wi:TI,PI X tg iter wi/\∀(H0:Hp) (B:Addr->Prop) (Hf:Hp) (sd:Zf) (σ:L2.St) (H:Hp) (R:It->Hp->Prop),SR X.K H0 B Hf sd σ H->Po X.K E (Rs X.K) Hf H (fi sd) R->wi σ H R
def Zjh {K:PySem.W.Frag}{Hf H:Hp}{a:Addr}{xs:List V}{ds:List D}(h:SqL K Hf a xs)(r:Reps K Hf ds xs):Rs K Hf H ds (Zm5 K a):=by
 intro i Hf1 H1 e1 e2
 have h2:=e2.seq (e1.seq h)
 cases q:ds[i]? with
 |some d=>
  obtain⟨x,ex,rx⟩:=r.get q
  refine⟨⟨xs,x,h2,ex⟩,fun y H2 hy=>?_⟩
  obtain⟨e,hy⟩:=hy
  subst e
  have ey:=hy xs h2
  rw[ex] at ey
  cases ey
  exact⟨Hf1,Gr.refl e2,rx.mono e1⟩
 |none=>
  refine⟨xs,h2,?_⟩
  have:=r.none_of q
  exact List.getElem?_eq_none_iff.mp this
def Zji {K:PySem.W.Frag}{Hf H:Hp}{a:Addr}{xs:List V}{ds:List D}(h:SqT K Hf a xs)(r:Reps K Hf ds xs):Rs K Hf H ds (Zkx K a):=by
 intro i Hf1 H1 e1 e2
 have h2:=Same.seqT e2 (Same.seqT e1 h)
 cases q:ds[i]? with
 |some d=>
  obtain⟨x,ex,rx⟩:=r.get q
  refine⟨⟨xs,x,h2,ex⟩,fun y H2 hy=>?_⟩
  obtain⟨e,hy⟩:=hy
  subst e
  have ey:=hy xs h2
  rw[ex] at ey
  cases ey
  exact⟨Hf1,Gr.refl e2,rx.mono e1⟩
 |none=>
  refine⟨xs,h2,?_⟩
  have:=r.none_of q
  exact List.getElem?_eq_none_iff.mp this
def Uc (lo:Int)(n:Nat):List D:=(List.range n).map fun k=>.int (lo+(k:Nat))
def Zb8 {K:PySem.W.Frag}{Hf H:Hp}(lo:Int)(n:Nat):Rs K Hf H (Uc lo n) (Zlf lo n):=by
 intro i Hf1 H1 e1 e2
 unfold Uc
 rw[List.getElem?_map]
 by_cases hi:i<n
 ·rw[List.getElem?_range hi]
  refine⟨hi,fun y H2 hy=>?_⟩
  obtain⟨e,hy⟩:=hy
  subst e
  exact⟨Hf1,Gr.refl e2,rep_int.mpr hy⟩
 ·rw[List.getElem?_eq_none (by simpa using hi)]
  exact Nat.le_of_not_lt hi
def Xi (f:Zf->M D)(sd:Zf):M (List D):=(f sd).bind fun d=>match d with
 |.lst ds=>.ok ds
 |.tup ds=>.ok ds
 |_=>.bad
def Zjj {tg l:Expr}{tl:TE}(hl:PE X l tl):PI X tg l (fun σ H R=>tl σ H fun x H1=>(∃a,x=.ref a/\(∃xs,SqL X.K H1 a xs)/\R (Zm5 X.K a) H1)\/∃a,x=.ref a/\(∃xs,SqT X.K H1 a xs)/\R (Zkx X.K a) H1):=by
 intro pins s σ H R I h
 refine Yj (hl pins s σ H _ I h) fun v s1 ⟨x,H1,I1,r1,q1⟩=>?_
 rcases q1 with⟨a,e,⟨xs,hq⟩,q⟩|⟨a,e,⟨xs,hq⟩,q⟩
 ·subst e
  cases r1
  obtain⟨its,rv,p,hz⟩:=I1.list hq
  refine wpAny_pyIter_list p.isList ?_
  refine⟨s1.heap.objs.size,[s1.heap.objs.size],_,_,H1,rfl,I1.kept (t':=s1.toks) fun b o e=>Heap.get?_push_of_some _ e,Ln a _,⟨_,Heap.get?_push_size _ rfl,rfl,rfl⟩,fun b hb=>?_,q⟩
  have e:b=s1.heap.objs.size:=by simpa using hb
  subst e
  exact I1.fpOk (Nat.le_refl _) (I1.hok.fresh (Nat.le_refl _))
 ·subst e
  cases r1
  obtain⟨its,rv,p,hz⟩:=I1.tuple hq
  refine wpAny_pyIter_tuple (show s1.heap.IsTuple a its.toArray from p) ?_
  refine⟨s1.heap.objs.size,[s1.heap.objs.size],_,_,H1,rfl,I1.kept (t':=s1.toks) fun b o e=>Heap.get?_push_of_some _ e,Sh a _,⟨_,Heap.get?_push_size _ rfl,rfl,rfl⟩,fun b hb=>?_,q⟩
  have e:b=s1.heap.objs.size:=by simpa using hb
  subst e
  exact I1.fpOk (Nat.le_refl _) (I1.hok.fresh (Nat.le_refl _))
def Yq {tg l:Expr}{f:Zf->M D}(h:Y0 X E l f):Zhr X E tg l (Xi f):=by
 obtain⟨t,p,q⟩:=h
 refine⟨_,Zjj p,fun H0 B Hf sd σ H R sr h=>?_⟩
 refine q H0 B Hf sd σ H _ sr (Po.bind h fun d v Hf1 H1 _ g1 rv h1=>?_)
 split at h1
 ·rename_i ds
  obtain⟨a,xs,rfl,ha,hr⟩:=rep_lst.mp rv
  exact .inl ⟨a,rfl,⟨xs,g1.sub.seq ha⟩,Po.ret (R:=Rs X.K) g1.sub h1 (Zjh ha hr)⟩
 ·rename_i ds
  obtain⟨a,xs,rfl,ha,hr⟩:=Qc rv
  exact .inr ⟨a,rfl,⟨xs,Same.seqT g1.sub ha⟩,Po.ret (R:=Rs X.K) g1.sub h1 (Zji ha hr)⟩
 ·exact h1.elim
def X4 (fs:Zf->M (List D))(sd:Zf):M (List D):=(fs sd).bind fun ds=>match ds with
 |[.int j]=>if -1000000<=j/\j<=1000000 then .ok (Uc 0 j.toNat) else .bad
 |_=>.bad
def J3 {tg a:Expr}{p:Pos}{fs:Zf->M (List D)} (hg:Gl X "range") (hm:X.mg "range"=none) (h:T3 X E [a] fs) (hs:starEach [a] X.env=[(false,eval a X.env)]:=by rfl):Zhr X E tg (.Call (.Name "range" p) [a] [] pos) (X4 fs):=by
 obtain⟨t,pt,q⟩:=h
 refine⟨_,Og hg hm pt hs,fun H0 B Hf sd σ H R sr h=>?_⟩
 refine q H0 B Hf sd σ H _ sr (Po.bind h fun ds vs Hf1 H1 _ g1 rs h1=>?_)
 split at h1
 ·split at h1
  ·rename_i hj
   obtain⟨v,rfl,rv⟩:=Kg rs
   rw[rep_int.mp rv]
   exact⟨_,rfl,by lia,by lia,Po.ret (R:=Rs X.K) g1.sub h1 (Zb8 0 _)⟩
  ·exact h1.elim
 ·exact h1.elim
def Y1 (g:D->Zf->M Zf)(f:Zf->M O):List D->Zf->M O
 |[],sd=>.ok (.nx sd)
 |d::r,sd=>match g d sd with
  |.ok sd1=>(f sd1).bind fun o=>match o with
   |.nx sd2=>Y1 g f r sd2
   |.ct sd2=>Y1 g f r sd2
   |.bk sd2=>.ok (.nx sd2)
   |.rt s=>.ok (.rt s)
  |_=>.bad
def Xr (fi:Zf->M (List D))(g:D->Zf->M Zf)(f:Zf->M O)(sd:Zf):M O:=(fi sd).bind fun ds=>Y1 g f ds sd
def Yh {tg iter:Expr}{body:List Stmt}{fi:Zf->M (List D)}{g:D->Zf->M Zf}{f:Zf->M O}(hp:PassesOwn (model X.prog X.w) X.A X.env X.xe)(hc:X.calm=true)(hi:Zhr X E tg iter fi)(hg:Zhq X tg g)(hb:Gs X E body f)(hs:∀x,foldedSetIterable iter X.env x=pure x:=by intro _;rfl):N8 X E (.For tg iter body [] pos) (Xr fi g f):=by
 obtain⟨wi,pw,qw⟩:=hi
 obtain⟨tg',pg,qg⟩:=hg
 obtain⟨tb,pb,qb⟩:=hb
 refine⟨_,M3 hp hc pw pg pb hs,fun H0 B Hf sd σ H D sr h=>?_⟩
 refine qw H0 B Hf sd σ H _ sr (PoS.bind sr h fun ds J Hf1 H1 _ g1 sr1 J1 h1=>?_)
 refine⟨fun i m σ' H'=>m=ds.length-i/\∃Hf' sd',Same Hf1 Hf'/\SR X.K H0 B Hf' sd' σ' H'/\PoS X.K E H0 B Hf' (Y1 g f (ds.drop i) sd') D,⟨ds.length,by simp,Hf1,sd,Same.refl _,sr1,by simpa using h1⟩,?_⟩
 rintro i m σ2 H2 ⟨rfl,Hf2,sd2,e2,sr2,h2⟩
 have jj:=J1 i Hf2 H2 e2 sr2.sub
 cases q:ds[i]? with
 |none=>
  rw[q] at jj
  refine .inl ⟨jj,?_⟩
  rw[List.drop_eq_nil_of_le (List.getElem?_eq_none_iff.mp q)] at h2
  exact h2 σ2 Hf2 H2 (Same.refl _) sr2
 |some d=>
  rw[q] at jj
  obtain⟨go,yl⟩:=jj
  have hlt:i<ds.length:=(List.getElem?_eq_some_iff.mp q).1
  have hd:ds.drop i=d::ds.drop (i+1):=by
   rw[List.drop_eq_getElem_cons hlt]
   congr 1
   exact(List.getElem?_eq_some_iff.mp q).2
  rw[hd] at h2
  refine .inr ⟨go,fun σ' H'=>∃Hf' sd',Same Hf1 Hf'/\SR X.K H0 B Hf' sd' σ' H'/\PoS X.K E H0 B Hf' (Y1 g f (ds.drop (i+1)) sd') D,fun σ' H' w=>⟨ds.length-(i+1),by lia,rfl,w⟩,fun x H3 y3=>?_⟩
  obtain⟨Hf3,g3,rx⟩:=yl x H3 y3
  have sr3:=sr2.gr g3
  unfold Y1 at h2
  split at h2
  ·rename_i sd3 eg
   refine qg H0 B Hf3 sd2 σ2 H3 x d sd3 _ sr3 rx eg fun σ4 sr4=>?_
   refine qb H0 B Hf3 sd3 σ4 H3 _ sr4 ?_
   have h2:=PoS.weak g3.fz h2
   cases ef:f sd3 with
   |ok o=>
    rw[ef] at h2
    cases o with
    |nx sd'=>exact fun σ' Hf' H' e' sr'=>⟨Hf',sd',e2.trans (g3.fz.trans e'),sr',PoS.weak e' h2⟩
    |ct sd'=>exact fun σ' Hf' H' e' sr'=>⟨Hf',sd',e2.trans (g3.fz.trans e'),sr',PoS.weak e' h2⟩
    |bk sd'=>exact h2
    |rt s=>exact h2
   |ex x=>rw[ef] at h2;exact h2
   |bad=>rw[ef] at h2;exact h2
  ·exact h2.elim
end
def Pe {prog:Program}{w:World}{A:Around}{R:Result->Shared->Prop}{s:Shared}{elt target iter:Expr}{scope:Scope}{pos:Pos}{it acc:Value}{env:Env}(I:Nat->Shared->Prop)
  (turn:∀n s,I n s->wpAny (model prog w) A (pyNext it) (fun r s₁=>match r with
   |none=>R (.ok .next) s₁
   |some v=>wpAny (model prog w) A (letOwnedTupleGo target it v) (fun _ s₂=>wpAny (model prog w) A (assign target env v) (fun _ s₃=>wpAny (model prog w) A (eval elt env) (fun x s₄=>
     wpAny (model prog w) A (call (.builtin "list.append") [acc,x]) (fun _ s₅=>∃m,m<n/\I m s₅) (fun _ _=>False) s₄) (fun _ _=>False) s₃) (fun _ _=>False) s₂) (fun _ _=>False) s₁) (fun _ _=>False) s)
  (n:Nat) (h:I n s):
  codeAny (model prog w) A (.compLoop (.ListComp elt [⟨target,iter,[],0⟩] scope pos) 0 it acc env) R s:=by
 refine codeAny_loop rfl I (fun n s hI=>?_) n h
 show wpAny _ A ((compTurn (.ListComp elt [⟨target,iter,[],0⟩] scope pos) 0 it acc env).onRaise (fun x=>do noteFrame x env;theTreesLotGoes x)) _ _ s
 refine wpAny_noted ?_
 rw[compTurn_list]
 refine wpAny_bind (wpAny_standAt (wpAny_bind (wpAny_mono (turn n s hI) (fun r s₁ h₁=>?_) fun _ _ h'=>h'.elim)))
 cases r with
 |none=>exact wpAny_pure h₁
 |some v=>
  refine wpAny_bind (wpAny_mono h₁ (fun _ s₂ h₂=>?_) fun _ _ h'=>h'.elim)
  refine wpAny_bind (wpAny_mono h₂ (fun _ s₃ h₃=>?_) fun _ _ h'=>h'.elim)
  refine wpAny_bind (wpAny_tests_nil ?_)
  exact wpAny_bind (wpAny_bind (wpAny_mono h₃ (fun x s₄ h₄=>wpAny_bind (wpAny_mono h₄ (fun _ s₅ h₅=>wpAny_pure (wpAny_pure ⟨rfl,h₅⟩)) fun _ _ h'=>h'.elim)) fun _ _ h'=>h'.elim))
def Ud (X:Cx)(Nc:List Str)(scope:Scope)(cl:List (Str×Addr))(s3:Shared)(H3:Hp)(C:Addr)(ex:List Addr):Cx:=
 {X with N:=Nc,s₀:=s3,H₀:=H3,env:=compEnvC scope cl C X.env,outer:=X.stack,stack:=X.stack,ex:=ex,fn:=fun _=>false,pn:=[],xe:=fun _ _=>False}
structure CapOk (X:Cx) (Nc:List Str) (n0:Nat) (caps:List Nat) (scope:Scope) (cl:List (Str×Addr)):Prop where
 sub:∀y c,cl.lookup y=some c->X.env.cells.lookup y=some c
 has:∀y,(relabel scope X.env).names.lookup y=some .cell\/(relabel scope X.env).names.lookup y=some .free->∃c,cl.lookup y=some c
 cap:∀(i j:Nat) (x:Str),Nc[n0+i]?=some x->caps[i]?=some j->X.N[j]?=some x/\X.env.scope.names.lookup x=some .cell/\(relabel scope X.env).names.lookup x=some .cell
 len:Nc.length=n0+caps.length
def Qz:Obj:={cls:=.type "list", dict:=none,data:=.seq ([]:List Value).toArray}
section
variable {X:Cx}{pins:List (Addr×Obj)}{σ:L2.St}{H2:Hp}{s2:Shared}{Nc:List Str}{n0:Nat}{caps:List Nat}{scope:Scope}{cl:List (Str×Addr)}{fp:List Addr}
def Ce (I2:Inv X pins σ H2 s2)(f2:∀b∈fp,Rm X pins H2 b)(hold:∀b∈fp,∃o,s2.heap.get? b=some o)(hkind:scope.kind=.function)(cap:CapOk X Nc n0 caps scope cl){h1:Heap}{m0:Str->Option Value}{tk:Nat}(hns:h1.Ns (s2.heap.objs.size+1) m0)(hold1:∀b o,s2.heap.get? b=some o->h1.get? b=some o)(hD:h1.get? s2.heap.objs.size=some Qz):
  Inv (Ud X Nc scope cl {s2 with heap:=s2.heap.push Qz} (upd H2 s2.heap.objs.size (.lst [])) (s2.heap.objs.size+1) fp) [] (List.replicate n0 none++caps.map fun j=>(σ[j]?).join) (upd H2 s2.heap.objs.size (.lst [])) {s2 with heap:=h1,toks:=tk}:=by
 have fresh:H2 s2.heap.objs.size=none:=I2.hok.fresh (Nat.le_refl _)
 have freshC:H2 (s2.heap.objs.size+1)=none:=I2.hok.fresh (Nat.le_succ _)
 have sz:(s2.heap.push Qz).objs.size=s2.heap.objs.size+1:=Heap.size_push _ _
 have lt:∀{b:Addr}{o:Obj},s2.heap.get? b=some o->b<s2.heap.objs.size:=fun e=>Heap.lt_size e
 have ne0:∀{b:Addr}{o:Obj},s2.heap.get? b=some o->b≠s2.heap.objs.size:=fun e=>Nat.ne_of_lt (lt e)
 have clt:∀y c,cl.lookup y=some c->c<s2.heap.objs.size:=fun y c e=>by
  obtain⟨v,q⟩:=I2.cell y c (cap.sub y c e)
  exact q.lt
 have frl:∀b∈Oe X.stack,b<s2.heap.objs.size:=fun b hb=>by
  obtain⟨_,o,ho,_⟩:=I2.stack.mem hb
  exact lt ho
 have kp:∀b o,(s2.heap.push Qz).get? b=some o->h1.get? b=some o:=fun b o e=>by
  by_cases hb:b=s2.heap.objs.size
  ·subst hb
   rw[Heap.get?_push_size _ rfl] at e
   cases e
   exact hD
  ·rw[Heap.get?_push_ne _ _ _ hb] at e
   exact hold1 b o e
 have hok3:HOk X.prog X.w (upd H2 s2.heap.objs.size (.lst [])) h1:=I2.hok.laid hold1 (Nat.le_refl _) ⟨Nat.zero_le _,[],0,.nil,hD⟩
 refine⟨⟨I2.ok.mod,?_,I2.ok.glob,I2.ok.blt,?_,?_,?_,?_,I2.ok.hd,I2.ok.frames,.inl rfl,?_,?_,?_,?_,?_,?_,?_⟩,rfl,I2.bare,?_,⟨m0,hns,?_⟩,?_,?_,?_,?_,hok3,?_⟩
 ·show(relabel scope X.env).kind=.function
  exact hkind
 ·show(s2.heap.push Qz).objs.size<=s2.heap.objs.size+1
  rw[sz];exact Nat.le_refl _
 ·intro x y c h1 h2
  exact I2.ok.inj x y c (cap.sub x c h1) (cap.sub y c h2)
 ·intro x h
  exact cap.has x h
 ·intro x c h
  cases h
 ·intro b hb
  refine⟨?_,fun x c e=>?_⟩
  ·obtain⟨o,e⟩:=hold b hb
   exact Nat.ne_of_lt (Nat.lt_succ_of_lt (lt e))
  ·exact(f2 b hb).2.2.2.2.1 x c (cap.sub x c e)
 ·intro b o e
  obtain⟨q1,q2⟩:=I2.bs b o e
  exact⟨Heap.get?_push_of_some _ q1,(Zm (ne0 q1)).trans q2⟩
 ·show X.base.objs.size<=(s2.heap.push Qz).objs.size
  rw[sz]
  exact Nat.le_succ_of_le (Nat.le_trans I2.ok.bsz I2.sz)
 ·intro b o e hb
  obtain⟨_,_,_,f4,_,_⟩:=f2 b hb
  rcases f4 with z|z
  ·exact I2.ok.noex b o e z
  ·exact absurd (Nat.lt_of_lt_of_le (Nat.lt_of_lt_of_le (Heap.lt_size e) I2.ok.bsz) z) (Nat.lt_irrefl _)
 ·intro b hb hz
  rcases List.mem_cons.mp (I2.stkSub b hz) with e|hz
  ·exact(f2 b hb).2.1 e
  ·exact(f2 b hb).2.2.1 hz
 ·exact I2.stack.of_keeps fun b o e _=>⟨o,Heap.get?_push_of_some _ e,rfl⟩
 ·intro b hb
  show upd H2 s2.heap.objs.size (.lst []) b=none
  rw[Zm (Nat.ne_of_lt (frl b hb))]
  exact I2.stkFree b hb
 ·exact Un.kept kp
 ·intro i x v e1 e2 e3
  have hi:n0<=i:=by
   refine Nat.le_of_not_lt fun hlt=>?_
   rw[List.getElem?_append_left (by simpa using hlt),List.getElem?_replicate] at e2
   split at e2<;>cases e2
  obtain⟨k,rfl⟩:=Nat.exists_eq_add_of_le hi
  rw[List.getElem?_append_right (by simp),List.length_replicate,Nat.add_sub_cancel_left,List.getElem?_map] at e2
  cases ej:caps[k]? with
  |none=>rw[ej] at e2;cases e2
  |some j=>
   rw[ej] at e2
   have e2:(σ[j]?).join=some v:=by simpa using e2
   have es:σ[j]?=some (some v):=by
    cases z:σ[j]? with
    |none=>rw[z] at e2;cases e2
    |some q=>rw[z] at e2;have:q=some v:=e2;rw[this]
   obtain⟨a1,a2,a3⟩:=cap.cap k j x e1 ej
   obtain⟨m,hn,hl⟩:=I2.loc
   obtain⟨u,ru,lk⟩:=hl j x v a1 es (.inr (.inl a2))
   refine⟨u,ru,?_⟩
   rcases lk with⟨z,_⟩|⟨_,c,ec,cell⟩
   ·have z:X.env.scope.names.lookup x=some .local:=z
    rw[a2] at z;cases z
   ·obtain⟨c',ec'⟩:=cap.has x (.inl a3)
    have:=cap.sub x c' ec'
    rw[ec] at this
    cases this
    obtain⟨o,ho,hd⟩:=cell
    exact .inr ⟨.inl a3,c,ec',o,hold1 _ _ ho,hd⟩
 ·intro x c e
  obtain⟨v,o,ho,hd⟩:=I2.cell x c (cap.sub x c e)
  exact⟨v,o,hold1 _ _ ho,hd⟩
 ·show upd H2 s2.heap.objs.size (.lst []) (s2.heap.objs.size+1)=none
  rw[Zm (Nat.ne_of_gt (Nat.lt_succ_self _))]
  exact freshC
 ·intro x c e
  show upd H2 s2.heap.objs.size (.lst []) c=none
  rw[Zm (Nat.ne_of_lt (clt x c e))]
  exact I2.freeC x c (cap.sub x c e)
 ·intro p hp
  exact absurd (show p∈([]:List (Addr×Obj)) from hp) (by simp)
 ·rw[List.length_append,List.length_replicate,List.length_map]
  exact cap.len.symm
def L6 (I2:Inv X pins σ H2 s2)(f2:∀b∈fp,Rm X pins H2 b){σ':L2.St}{H':Hp}{s':Shared}{h':Heap}(J:Inv (Ud X Nc scope cl {s2 with heap:=s2.heap.push Qz} (upd H2 s2.heap.objs.size (.lst [])) (s2.heap.objs.size+1) fp) [] σ' H' s')(sb:Heap.SameBut (s2.heap.objs.size+1) s'.heap h'):
  Inv X pins σ H' {s' with heap:=h'}:=by
 have I3:Inv X pins σ (upd H2 s2.heap.objs.size (.lst [])) {s2 with heap:=s2.heap.push Qz}:=I2.laid (t':=s2.toks) (fun b u e=>Heap.get?_push_of_some _ e) (Nat.le_refl _) ⟨Nat.zero_le _,[],0,.nil,Heap.get?_push_size _ rfl⟩
 have sz:(s2.heap.push Qz).objs.size=s2.heap.objs.size+1:=Heap.size_push _ _
 have same:∀{b:Addr}{o:Obj},(s2.heap.push Qz).get? b=some o->h'.get? b=s'.heap.get? b:=fun {b o} e=>sb.2 b (by
  have:=Heap.lt_size e
  rw[sz] at this
  exact Nat.ne_of_lt this)
 have u:Un (Oe X.stack) fp (upd H2 s2.heap.objs.size (.lst [])) H' (s2.heap.push Qz) s'.heap:=J.base
 refine I3.call' (s':={s' with heap:=h'}) (ch:=fp) J.os ⟨fun b o e n h1 h2=>?_,fun b o e n h1 h2=>?_,u.free,fun b o e h1=>?_,u.tups,u.frzs,u.tbls⟩ (fun b ob e=>?_) J.bare fun b hb=>?_
 ·show h'.get? b=_
  rw[same e];exact u.keep b o e n h1 h2
 ·show ∃sl,h'.get? b=_
  rw[same e];exact u.slot b o e n h1 h2
 ·show ∃o',h'.get? b=_
  rw[same e];exact u.there b o e h1
 ·have fr:H' (s2.heap.objs.size+1)=none:=J.free
  refine(J.hok b ob e).stay (fun c w hc q=>?_) (fun _ q=>q) (fun _ _ q=>q) fun _ _ _ q=>q
  refine(sb.2 c ?_).trans q
  rintro rfl
  rcases hc with rfl|hc
  ·rw[fr] at e;cases e
  ·rw[fr] at hc;cases hc
 ·obtain⟨f0,f1,_,f3,f4,f5⟩:=f2 b hb
  exact⟨f3,f1,f4,f5⟩
end
def Zl5:Option S->Option S
 |some (.im d)=>some (.im d)
 |_=>none
def V5 (n0:Nat)(caps:List Nat)(sd:Zf):Zf:=List.replicate n0 none++caps.map fun j=>Zl5 (sd[j]?).join
def Wx (gt:D->Zf->M Zf)(fe:Zf->M D)(sd0:Zf):List D->M (List D)
 |[]=>.ok []
 |d::ds=>match gt d sd0 with
  |.ok sd1=>match fe sd1 with
   |.ok e=>match Wx gt fe sd0 ds with
    |.ok es=>.ok (e::es)
    |_=>.bad
   |_=>.bad
  |_=>.bad
def Ut (fi:Zf->M (List D))(n0:Nat)(caps:List Nat)(gt:D->Zf->M Zf)(fe:Zf->M D)(sd:Zf):M (List D):=(fi sd).bind fun ds=>if few ds then Wx gt fe (V5 n0 caps sd) ds else .bad
def PoF (K:PySem.W.Frag)(E:XK)(Hf H:Hp)(r:M (List D))(Q:VK):Prop:=match r with
 |.ok ds=>∀p xs Hf' H',Gr Hf H Hf' H'->H p=none->Hf' p=none->H' p=some (.lst xs)->Reps K Hf' ds xs->Q (.ref p) H'
 |.ex x=>∀c dx Hf' H',Gr Hf H Hf' H'->Zfk K Hf' H' x c dx->E c dx H'
 |.bad=>False
def Zfs (X:Cx)(E:XK)(e:Expr)(f:Zf->M (List D)):Prop:=
 ∃t:TE,PE X e t/\∀(H0:Hp) (B:Addr->Prop) (Hf:Hp) (sd:Zf) (σ:L2.St) (H:Hp) (Q:VK),SR X.K H0 B Hf sd σ H->PoF X.K E Hf H (f sd) Q->t σ H Q
def PoF.weak {K:PySem.W.Frag}{E:XK}{Hf H Hf1 H1:Hp}{r:M (List D)}{Q:VK}(g:Gr Hf H Hf1 H1)(h:PoF K E Hf H r Q):PoF K E Hf1 H1 r Q:=by
 cases r with
 |ok a=>exact fun p xs Hf' H' g' e1 e2 e3 e4=>h p xs Hf' H' (g.trans g') (g.all.free e1) e2 e3 e4
 |ex x=>exact fun c dx Hf' H' g' q=>h c dx Hf' H' (g.trans g') q
 |bad=>exact h
theorem PoF.bind {K:PySem.W.Frag}{E:XK}{Hf H:Hp}{α β:Type}{R:Hp->Hp->α->β->Prop}{r:M α}{k:α->M (List D)}{Q:VK}{Q1:β->Hp->Prop}(h:PoF K E Hf H (r.bind k) Q)(s:∀a b Hf1 H1,r=.ok a->Gr Hf H Hf1 H1->R Hf1 H1 a b->PoF K E Hf1 H1 (k a) Q->Q1 b H1):Po K E R Hf H r Q1:=by
 cases r with
 |ok a=>exact fun b Hf' H' g q=>s a b Hf' H' rfl g q (PoF.weak g h)
 |ex x=>exact h
 |bad=>exact h
def U7 (f:Zf->M (List D))(sd:Zf):M D:=(f sd).bind fun ds=>.ok (.lst ds)
def Pf {X:Cx}{E:XK}{e:Expr}{f:Zf->M (List D)}(h:Zfs X E e f):Y0 X E e (U7 f):=by
 obtain⟨t,p,q⟩:=h
 refine⟨t,p,fun H0 B Hf sd σ H Q sr h=>q H0 B Hf sd σ H Q sr ?_⟩
 unfold U7 at h
 cases e:f sd with
 |ok ds=>
  rw[e] at h
  intro p xs Hf' H' g e1 e2 e3 e4
  refine h _ (upd Hf' p (.lst xs)) H' ⟨g.fz.trans (Qa e2 _),fun b u z=>?_,g.all,fun a h1 h2=>?_⟩ (rep_lst.mpr ⟨p,xs,rfl,SqL.of Zo,e4.mono (Qa e2 _)⟩)
  ·by_cases hb:b=p
   ·subst hb;rw[Zo] at z;rw[e3];exact z
   ·rw[Zm hb] at z;exact g.sub b u z
  ·have:a≠p:=fun z=>h1.nn (z▸e1)
   rw[Zm this];exact g.ban a h1 h2
 |ex x=>rw[e] at h;exact h
 |bad=>rw[e] at h;exact h
def O2 {gt:D->Zf->M Zf}{fe:Zf->M D}{sd0:Zf}{x:XV}:∀{ds:List D},Wx gt fe sd0 ds=.ex x->False
 |[],h=>by cases h
 |d::ds,h=>by
  unfold Wx at h
  split at h
  ·split at h
   ·split at h<;>cases h
   ·cases h
  ·cases h
def SR.ofIm {K:PySem.W.Frag}{Hf H:Hp}{sd:Zf}{σ:L2.St}(e:Same Hf H)(hl:sd.length=σ.length)(him:∀(i:Nat) (d:D),sd[i]?=some (some (.im d))->∃v,σ[i]?=some (some v)/\Rep K Hf d v)(hno:∀(i:Nat) (t:S),sd[i]?=some (some t)->∃d,t=.im d):
  SR K H (fun a=>Lv H a/\Hf a=none) Hf sd σ H:=
 ⟨e,Same.refl _,fun _ h=>h.2,fun _ h=>h.1,hl,fun i t h _=>(by obtain⟨d,rfl⟩:=hno i t h;exact him i d h),fun i t h ho=>(by obtain⟨d,rfl⟩:=hno i t h;cases ho),fun i _ t _ _ _ h ho _ _ _ _=>(by obtain⟨d,rfl⟩:=hno i t h;cases ho)⟩
def Bg {n0:Nat}{caps:List Nat}{sd:Zf}{i:Nat}{s:S}(h:(V5 n0 caps sd)[i]?=some (some s)):n0<=i:=by
 refine Nat.le_of_not_lt fun hlt=>?_
 unfold V5 at h
 rw[List.getElem?_append_left (by simpa using hlt),List.getElem?_replicate] at h
 split at h<;>cases h
def Ek {n0:Nat}{caps:List Nat}{sd:Zf}{i:Nat}{s:S}(h:(V5 n0 caps sd)[i]?=some (some s)):∃k j d,i=n0+k/\caps[k]?=some j/\sd[j]?=some (some (.im d))/\s=.im d:=by
 obtain⟨k,rfl⟩:=Nat.exists_eq_add_of_le (Bg h)
 unfold V5 at h
 rw[List.getElem?_append_right (by simp),List.length_replicate,Nat.add_sub_cancel_left,List.getElem?_map] at h
 cases ej:caps[k]? with
 |none=>rw[ej] at h;cases h
 |some j=>
  rw[ej] at h
  have h:Zl5 (sd[j]?).join=some s:=by simpa using h
  cases z:sd[j]? with
  |none=>rw[z] at h;cases h
  |some q=>
   rw[z] at h
   cases q with
   |none=>cases h
   |some q=>
    cases q with
    |im d=>cases h;exact⟨k,j,d,rfl,ej,z,rfl⟩
    |ow _=>cases h
    |od _=>cases h
    |dk _=>cases h
    |xc _=>cases h
    |fn _=>cases h
    |ob _ _ _=>cases h
    |fl _ _ _=>cases h
def Zb9 {n0:Nat}{caps:List Nat}{sd:Zf}(i:Nat)(t:S)(h:(V5 n0 caps sd)[i]?=some (some t)):∃d,t=.im d:=by
 obtain⟨_,_,d,_,_,_,e⟩:=Ek h
 exact⟨d,e⟩
def Zjk (n0:Nat)(gt:D->Zf->M Zf):Prop:=∀d sd sd1,gt d sd=.ok sd1->sd1.length=sd.length/\(∀i:Nat,n0<=i->sd1[i]?=sd[i]?)/\True
def K0 {n0 k:Nat}(h:k<n0):Zjk n0 (Yw k):=fun d sd sd1 e=>by
 cases e
 exact⟨List.length_set,fun i hi=>List.getElem?_set_ne (by lia),trivial⟩
def U8 {X:Cx}{E:XK}{pos:Pos}{tg elt iter:Expr}{scope:Scope}{Nc:List Str}{n0:Nat}{caps:List Nat}{cl:List (Str×Addr)}{fi:Zf->M (List D)}{gt:D->Zf->M Zf}{fe:Zf->M D}(hc:X.calm=true)(hclos:closureFor scope X.env=pure cl)(cap:CapOk X Nc n0 caps scope cl)(hkind:scope.kind=.function)(hcell:∀y∈scope.names,y.2≠.cell)(hnames:∀y∈scope.names,y.2=.local->scope.names.lookup y.1=some .local)(hk:Zjk n0 gt)(hi:Zhr X E tg iter fi)(hg:∀s3 H3 C ex,Zhq (Ud X Nc scope cl s3 H3 C ex) tg gt)(he:∀s3 H3 C ex,Y0 (Ud X Nc scope cl s3 H3 C ex) E0 elt fe)(hs:∀x,foldedSetIterable iter X.env x=pure x:=by intro _;rfl):
  Zfs X E (.ListComp elt [⟨tg,iter,[],0⟩] scope pos) (Ut fi n0 caps gt fe):=by
 refine⟨fun σ H Q=>∃H0 B Hf sd,SR X.K H0 B Hf sd σ H/\PoF X.K E Hf H (Ut fi n0 caps gt fe sd) Q,?_,fun H0 B Hf sd σ H Q sr h=>⟨H0,B,Hf,sd,sr,h⟩⟩
 rintro pins s σ H Q I ⟨H0,B,Hf,sd,sr,h⟩
 obtain⟨wi,pw,qw⟩:=hi
 rw[eval_ListComp]
 refine wpAny_comprehension_free (use:=none) rfl hs hclos hkind hnames ?_
 have step:=pw pins s σ H (fun J H2=>∃ds Hf2,Gr Hf H Hf2 H2/\Rs X.K Hf2 H2 ds J/\PoF X.K E Hf2 H2 (if few ds then Wx gt fe (V5 n0 caps sd) ds else .bad) Q) I
  (qw H0 B Hf sd σ H _ sr (PoF.bind h fun ds J Hf2 H2 _ g2 jok h2=>⟨ds,Hf2,g2,jok,h2⟩))
 refine Yj step fun v s1 h1=>Yj h1 fun itv s2 h2=>?_
 obtain⟨it,fp,tn,J,H2,rfl,I2,T,Za3,f2,ds,Hf2,g2,jok,hq⟩:=h2
 have sr2:=sr.gr g2
 split at hq
 case isFalse=>exact hq.elim
 case isTrue hfew=>
 have fresh:H2 s2.heap.objs.size=none:=I2.hok.fresh (Nat.le_refl _)
 have holdf:∀b∈fp,∃o,s2.heap.get? b=some o:=fun b hb=>let ⟨o,e,_⟩:=T.obj 0 _ Za3 b hb;⟨o,e⟩
 refine wpAny_newObj_type (wpAny_newFunctionEnv hcell (by intro y hy;simp at hy) (fun h₁ hns₁ hsb₁=>?_) hkind)
 have hC:(s2.heap.push Qz).objs.size=s2.heap.objs.size+1:=Heap.size_push _ _
 have hns:h₁.Ns (s2.heap.objs.size+1) (fun x=>([]:List (Str×Value)).reverse.lookup x):=hC▸hns₁
 have hsb:Heap.SameBut (s2.heap.objs.size+1) ((s2.heap.push Qz).push {cls:=.type "dict", data:=.dict #[]}) h₁:=hC▸hsb₁
 have hold1:∀b o,s2.heap.get? b=some o->h₁.get? b=some o:=fun b o e=>by
  have hb:b<s2.heap.objs.size:=Heap.lt_size e
  exact(hsb.2 b (Nat.ne_of_lt (Nat.lt_succ_of_lt hb))).trans (Heap.get?_push_of_some _ (Heap.get?_push_of_some _ e))
 have hD:h₁.get? s2.heap.objs.size=some Qz:=(hsb.2 _ (Nat.ne_of_lt (Nat.lt_succ_self _))).trans (Heap.get?_push_of_some _ (Heap.get?_push_size _ rfl))
 have J0:=Ce I2 f2 holdf hkind cap (tk:=s2.toks+([]:List (Str×Value)).length) hns hold1 hD
 have hg:=hg {s2 with heap:=s2.heap.push Qz} (upd H2 s2.heap.objs.size (.lst [])) (s2.heap.objs.size+1) fp
 have he:=he {s2 with heap:=s2.heap.push Qz} (upd H2 s2.heap.objs.size (.lst [])) (s2.heap.objs.size+1) fp
 generalize hXc:Ud X Nc scope cl {s2 with heap:=s2.heap.push Qz} (upd H2 s2.heap.objs.size (.lst [])) (s2.heap.objs.size+1) fp=Xc at J0 hg he
 have eP:Xc.prog=X.prog:=by subst hXc;rfl
 have eW:Xc.w=X.w:=by subst hXc;rfl
 have eK:Xc.K=X.K:=by subst hXc;rfl
 have eA:Xc.A=X.A:=by subst hXc;rfl
 have eX:Xc.xe=fun _ _=>False:=by subst hXc;rfl
 have eE:Xc.env=compEnvC scope cl (s2.heap.objs.size+1) X.env:=by subst hXc;rfl
 have eC:Xc.calm=true:=by subst hXc;exact hc
 have fpc:∀{H':Hp},(∀b∈fp,H' b=none)->∀b∈fp,Rm Xc [] H' b:=fun {H'} hn b hb=>by
  subst hXc
  obtain⟨f0,f1,f2',f3,f4,f5⟩:=f2 b hb
  obtain⟨o,eo⟩:=holdf b hb
  refine⟨hn b hb,Nat.ne_of_lt (Nat.lt_succ_of_lt (Heap.lt_size eo)),fun hz=>?_,.inl hb,fun x c e=>f4 x c (cap.sub x c e),fun p hp=>absurd (show p∈([]:List (Addr×Obj)) from hp) (by simp)⟩
  rcases List.mem_cons.mp (I2.stkSub b hz) with e|hz
  ·exact f1 e
  ·exact f2' hz
 have nfp:∀b∈fp,b≠s2.heap.objs.size:=fun b hb=>by
  obtain⟨o,eo⟩:=holdf b hb
  exact Nat.ne_of_lt (Heap.lt_size eo)
 obtain⟨tg',pg,qg⟩:=hg
 obtain⟨te,pe,qe⟩:=he
 have loop:∀s₃:Shared,s₃={s2 with heap:=h₁,toks:=s2.toks+([]:List (Str×Value)).length} ->
   codeAny (model X.prog X.w) X.A (.compLoop (.ListComp elt [⟨tg,iter,[],0⟩] scope pos) 0 (.ref it) (.ref s2.heap.objs.size) (compEnvC scope cl (s2.heap.objs.size+1) X.env))
    (compPost (model X.prog X.w) X.A X.xe none (EP X pins σ Q) (.ref s2.heap.objs.size) (s2.heap.objs.size+1)) s₃:=by
  rintro s₃ rfl
  refine Pe (fun n s'=>∃i vs es H' Hf' σ',n=ds.length-i/\i<=ds.length/\Inv Xc [] σ' H' s'/\tn i s'.heap/\(∀b∈fp,H' b=none) /\
   H' s2.heap.objs.size=some (.lst vs)/\Hf' s2.heap.objs.size=none/\Gr Hf2 H2 Hf' H'/\Reps X.K Hf' es vs/\vs.length=i /\
   (V5 n0 caps sd).length=σ'.length/\(∀(j:Nat) (d:D),(V5 n0 caps sd)[j]?=some (some (.im d))->∃v,σ'[j]?=some (some v)/\Rep X.K Hf' d v) /\
   PoF X.K E Hf2 H2 ((Wx gt fe (V5 n0 caps sd) (ds.drop i)).bind fun fs=>.ok (es++fs)) Q) ?_ ds.length ?_
  ·rintro n s' ⟨i,vs,es,H',Hf',σ',rfl,hil,J1,st1,fr1,hd1,hf1,g1,rs1,hl1,hlen1,him1,hq1⟩
   have jj:=jok i Hf' H' g1.fz g1.sub
   cases q:ds[i]? with
   |none=>
    rw[q] at jj
    have tdone:=T.done Xc eP eW eK eC i [] s' _ H' (fun _ _=>False) J1 (fpc fr1) st1 jj
    rw[eA] at tdone
    refine wpAny_mono tdone (fun r s4 hr=>?_) fun _ _ z=>z
    obtain⟨rfl,J4⟩:=hr
    rw[List.drop_eq_nil_of_le (List.getElem?_eq_none_iff.mp q)] at hq1
    subst hXc
    obtain⟨m,hn4,_⟩:=J4.loc
    refine⟨m,hn4,fun h' sb=>?_⟩
    refine⟨.ref s2.heap.objs.size,H',L6 I2 f2 J4 sb,rfl,?_⟩
    have hq2:PoF X.K E Hf2 H2 (.ok es) Q:=by
     have:es++([]:List D)=es:=List.append_nil es
     rw[<-this];exact hq1
    exact hq2 _ vs Hf' H' g1 fresh hf1 hd1 rs1
   |some d=>
    rw[q] at jj
    obtain⟨go,yl⟩:=jj
    have hlt:i<ds.length:=(List.getElem?_eq_some_iff.mp q).1
    have hdr:ds.drop i=d::ds.drop (i+1):=by
     rw[List.drop_eq_getElem_cons hlt]
     congr 1
     exact(List.getElem?_eq_some_iff.mp q).2
    obtain⟨sd1,e1,eg,ee,hq2⟩:∃sd1 e1,gt d (V5 n0 caps sd)=.ok sd1/\fe sd1=.ok e1/\PoF X.K E Hf2 H2 ((Wx gt fe (V5 n0 caps sd) (ds.drop (i+1))).bind fun fs=>.ok ((es++[e1])++fs)) Q:=by
     rw[hdr] at hq1
     unfold Wx at hq1
     split at hq1
     ·rename_i sd1 eg
      split at hq1
      ·rename_i e1 ee
       refine⟨sd1,e1,eg,ee,?_⟩
       cases em:Wx gt fe (V5 n0 caps sd) (ds.drop (i+1)) with
       |ok fs=>
        rw[em] at hq1
        have:(es++[e1])++fs=es++e1::fs:=by simp
        rw[M.bind_ok,this]
        exact hq1
       |ex x=>exact(O2 em).elim
       |bad=>rw[em] at hq1;exact hq1.elim
      ·exact hq1.elim
     ·exact hq1.elim
    have titem:=T.item Xc eP eW eK eC i [] s' _ H' (fun _ _=>False) J1 (fpc fr1) st1 go
    rw[eA] at titem
    refine wpAny_mono titem (fun r s4 hr=>?_) fun _ _ z=>z
    obtain⟨u,rfl,h4⟩:=hr
    refine wpAny_mono h4 (fun _ s5 h5=>?_) fun _ _ z=>z
    obtain⟨x,H5,J5,r5,y5,st5,fr5⟩:=h5
    obtain⟨Hf5,g5,rx⟩:=yl x H5 y5
    have J5':=J5.pinned (fpc fr5) (T.obj _ _ st5)
    have hD5:H5 s2.heap.objs.size=some (.lst vs):=g5.all _ _ hd1
    have hf5:Hf5 s2.heap.objs.size=none:=g5.ban _ (Lv.lst hd1) hf1
    have him5:∀(j:Nat) (d:D),(V5 n0 caps sd)[j]?=some (some (.im d))->∃v,σ'[j]?=some (some v)/\Rep X.K Hf5 d v:=fun j d z=>let ⟨v,z1,z2⟩:=him1 j d z;⟨v,z1,z2.mono g5.fz⟩
    have sr5:SR Xc.K H5 (fun a=>Lv H5 a/\Hf5 a=none) Hf5 (V5 n0 caps sd) σ' H5:=eK▸SR.ofIm g5.sub hlen1 him5 Zb9
    obtain⟨kl,kk,kn⟩:=hk d _ sd1 eg
    have hg2:=pg _ s5 σ' H5 x u (fun σ6 H6=>te σ6 H6 fun v7 H7=>∃Hf7,Gr Hf5 H5 Hf7 H7/\Rep X.K Hf7 e1 v7/\(V5 n0 caps sd).length=σ6.length/\(∀(j:Nat) (d:D),(V5 n0 caps sd)[j]?=some (some (.im d))->∃v,σ6[j]?=some (some v)/\Rep X.K Hf7 d v)) J5' r5
     (qg H5 _ Hf5 _ σ' H5 x d sd1 _ sr5 (eK▸rx) eg fun σ6 sr6=>qe H5 _ Hf5 sd1 σ6 H5 _ sr6 (by
      rw[ee]
      intro v7 Hf7 H7 g7 r7
      have r7:Rep Xc.K Hf7 e1 v7:=r7
      rw[eK] at r7
      refine⟨Hf7,g7,r7,by rw[<-kl];exact sr6.len,fun j d z=>?_⟩
      have z2:sd1[j]?=some (some (.im d)):=by rw[kk j (Bg z)];exact z
      obtain⟨v,z3,z4⟩:=sr6.im j d z2
      rw[eK] at z4
      exact⟨v,z3,z4.mono g7.fz⟩))
    rw[eP,eW,eA,eX,eE] at hg2
    refine wpAny_mono hg2 (fun _ s6 h6=>?_) fun _ _ z=>z
    obtain⟨σ6,H6,J6,q6⟩:=h6
    have he2:=pe _ s6 σ6 H6 _ J6 q6
    rw[eP,eW,eA,eX,eE] at he2
    refine wpAny_mono he2 (fun y s7 h7=>?_) fun _ _ z=>z
    obtain⟨v7,H7,J7,r7,Hf7,g7,rv7,hl7,him7⟩:=h7
    have hD7:H7 s2.heap.objs.size=some (.lst vs):=g7.all _ _ hD5
    have hf7:Hf7 s2.heap.objs.size=none:=g7.ban _ (Lv.lst hD5) hf5
    have happ:=Wp (X:=Xc) _ s7 σ6 H7 (.ref s2.heap.objs.size) [v7] (.ref s2.heap.objs.size) [y] (fun _ H8=>H8=upd H7 s2.heap.objs.size (.lst (vs++[v7]))) J7 rfl (.cons r7 .nil)
     ⟨_,vs,v7,rfl,rfl,hD7,by
      have h1:=of_decide_eq_true hfew
      have h2:=sizeLine_eq
      lia,rfl⟩
    rw[eP,eW,eA,eX] at happ
    refine wpAny_mono happ (fun _ s8 h8=>?_) fun _ _ z=>z
    obtain⟨_,H8,J8,_,e8⟩:=h8
    subst e8
    have g17:=(g1.trans g5).trans g7
    refine⟨ds.length-(i+1),by lia,i+1,vs++[v7],es++[e1],_,Hf7,σ6,rfl,hlt,J8.unpinned,?_,fun b hb=>?_,Zo,hf7,⟨g17.fz,fun b o z=>?_,fun b o z=>?_,g17.ban⟩,?_,by rw[List.length_append,hl1];rfl,hl7,him7,hq2⟩
    ·exact T.keep _ _ _ st5 fun b hb o e=>(J8.pin (b,o) (List.mem_append_right _ (List.mem_append_right _ (Xh hb e)))).1
    ·obtain⟨o,e,_⟩:=T.obj _ _ st5 b hb
     exact(J8.pin (b,o) (List.mem_append_right _ (List.mem_append_right _ (Xh hb e)))).2.1
    ·have:b≠s2.heap.objs.size:=Zw z hf7
     rw[Zm this];exact g17.sub b o z
    ·have:b≠s2.heap.objs.size:=Zw z fresh
     rw[Zm this];exact g17.all b o z
    ·exact(rs1.mono (g5.fz.trans g7.fz)).append (Reps.cons rv7 Reps.nil)
  ·refine⟨0,[],[],_,Hf2,_,by simp,Nat.zero_le _,J0,T.keep 0 _ _ Za3 fun b hb o e=>hold1 b o e,fun b hb=>?_,Zo,g2.sub.free fresh,⟨Same.refl _,fun b o z=>?_,Qa fresh _,fun _ _ z=>z⟩,Reps.nil,rfl,?_,fun j d z=>?_,?_⟩
   ·rw[Zm (nfp b hb)];exact(f2 b hb).1
   ·have:b≠s2.heap.objs.size:=Zw (g2.sub b o z) fresh
    rw[Zm this];exact g2.sub b o z
   ·unfold V5;simp only[List.length_append,List.length_replicate,List.length_map]
   ·obtain⟨k,j',d',rfl,ej,es,ed⟩:=Ek z
    cases ed
    obtain⟨v,z1,z2⟩:=sr2.im j' d es
    refine⟨v,?_,z2⟩
    rw[List.getElem?_append_right (by simp),List.length_replicate,Nat.add_sub_cancel_left,List.getElem?_map,ej]
    simp[z1]
   ·have:∀r:M (List D),(r.bind fun fs=>.ok ([]++fs))=r:=fun r=>by cases r<;>simp
    rw[List.drop_zero,this]
    exact hq
 show codeAny (model X.prog X.w) X.A (.compStart (.ListComp elt [⟨tg,iter,[],0⟩] scope pos) 0 (.ref it) (.ref s2.heap.objs.size) (compEnvC scope cl (s2.heap.push Qz).objs.size X.env))
  (compPost (model X.prog X.w) X.A X.xe none (EP X pins σ Q) (.ref s2.heap.objs.size) (s2.heap.push Qz).objs.size) {s2 with heap:=h₁,toks:=s2.toks+([]:List (Str×Value)).length}
 rw[hC]
 exact codeAny_compStart_list (loop _ rfl) (T.self X.A 0 _ _ _ (T.keep 0 _ _ Za3 fun b hb o e=>hold1 b o e) (loop _ rfl))
def Zl6 {X:Cx}{Nc:List Str}{n0:Nat}{scope:Scope}(hn:Nc.length=n0)(h:∀y∈scope.names,y.2≠.cell/\y.2≠.free):CapOk X Nc n0 [] scope []:=by
 have key:∀(l:List (Str×NameKind)) (y:Str) (k:NameKind),(∀p∈l,p.2≠.cell/\p.2≠.free)->(l.map fun(n,k)=>if(k==NameKind.free&&X.env.scope.kind==.function&&X.env.kindOf n==some .cell) then(n,NameKind.cell) else(n,k)).lookup y=some k->k≠.cell/\k≠.free:=by
  intro l y k
  induction l with
  |nil=>intro _ e;cases e
  |cons p r ih=>
   intro hp e
   obtain⟨n,kk⟩:=p
   have h0:=hp (n,kk) List.mem_cons_self
   have hf:(kk==NameKind.free)=false:=by
    have:=h0.2
    cases kk<;>first|rfl|exact absurd rfl this
   rw[List.map_cons] at e
   simp only[hf,Bool.false_and,Bool.false_eq_true,if_false,List.lookup_cons] at e
   split at e
   ·cases e;exact h0
   ·exact ih (fun q hq=>hp q (List.mem_cons_of_mem _ hq)) e
 refine⟨fun y c e=>(nomatch e),fun y e=>?_,fun i j x _ e=>by simp at e,by simpa using hn⟩
 rcases e with e|e
 ·exact absurd rfl (key _ y _ h e).1
 ·exact absurd rfl (key _ y _ h e).2
section
variable {X:Cx}{E:XK}{pos:Pos}{a b:Expr}
def T9 (fs:Zf->M (List D))(sd:Zf):M (List D):=(fs sd).bind fun ds=>if few ds then .ok ds else .bad
def Kq {es:List Expr}{fs:Zf->M (List D)}(h:T3 X E es fs):Zfs X E (.List es pos) (T9 fs):=by
 obtain⟨t,p,q⟩:=h
 refine⟨_,D8 p,fun H0 B Hf sd σ H Q sr h=>?_⟩
 refine q H0 B Hf sd σ H _ sr (PoF.bind h fun ds vs Hf1 H1 _ g1 rs h1=>?_)
 split at h1
 ·rename_i hf
  refine⟨U3 hf rs,fun p hp=>h1 p vs Hf1 _ ⟨Same.refl _,g1.sub.trans (Qa hp _),Qa hp _,fun _ _ e=>e⟩ hp (g1.sub.free hp) Zo rs⟩
 ·exact h1.elim
def Rc (F:List D->M S)(fs:Zf->M (List D))(sd:Zf):M (List D):=(fs sd).bind fun ds=>match F ds with
 |.ok (.ow es)=>.ok es
 |_=>.bad
def Zca {k:Nat}{f:Addr}{fd:FuncData}{ps:List Str}{F:List D->M S}{x:Str}{p:Pos}{es:List Expr}{fs:Zf->M (List D)}(G:FnOk X.prog X.w X.K X.mg X.base Yd k f fd ps (Sr X.K F))(hr:Room k X.A)(hm:X.mg x=some (.ref f))(hk:PySem.W.keepIn X.K (.ref f)=true)(hb:Binds X.K fd ps [])(ha:T3 X E (a::es) fs)(hg:Gl X x:=by rfl) (hdb:(x==("__debug__":Str))=false:=by decide) (he:starEach (a::es) X.env=(false,eval a X.env)::starEach es X.env:=by rfl) (hpl:(backTo pos (starEach es X.env)).any (·.1)=false:=by rfl):
  Zfs X E (.Call (.Name x p) (a::es) [] pos) (Rc F fs):=by
 obtain⟨t,pt,qt⟩:=ha
 refine⟨_,Kd (dvs:=[]) (E:=E0) G hr hg hm hk hb .nil Jh pt hdb he hpl,fun H0 B Hf sd σ H Q sr h=>?_⟩
 refine qt H0 B Hf sd σ H _ sr (PoF.bind h fun ds vs Hf1 H1 _ g1 rs h1=>?_)
 split at h1
 ·rename_i es e
  refine⟨Hf1,ds,_,g1.sub,by rw[List.append_nil];exact rs,e,fun v Hf' H' g2 rv=>?_⟩
  obtain⟨p,rfl,e1,e2,xs,e3,e4⟩:=rv
  exact h1 p xs Hf' H' g2 e1 e2 e3 e4
 ·exact h1.elim
def PoS.bindF {K:PySem.W.Frag}{E:XK}{H0 Hf H:Hp}{B:Addr->Prop}{sd:Zf}{σ:L2.St}{r:M (List D)}{k:List D->M O}{D':Ends}{Q1:VK}(sr:SR K H0 B Hf sd σ H)(h:PoS K E H0 B Hf (r.bind k) D')(s:∀ds p xs Hf1 H1,r=.ok ds->Gr Hf H Hf1 H1->SR K H0 B Hf1 sd σ H1->H p=none->Hf1 p=none->H1 p=some (.lst xs)->Reps K Hf1 ds xs->PoS K E H0 B Hf1 (k ds) D'->Q1 (.ref p) H1):PoF K E Hf H r Q1:=by
 cases r with
 |ok ds=>exact fun p xs Hf' H' g e1 e2 e3 e4=>s ds p xs Hf' H' rfl g (sr.gr g) e1 e2 e3 e4 (PoS.weak g.fz h)
 |ex x=>exact fun c dx Hf' H' g q=>h c dx Hf' H' g.fz (sr.gr g).fin q
 |bad=>exact h
def SR.set_new {K:PySem.W.Frag}{H0 Hf H H1:Hp}{B:Addr->Prop}{sd:Zf}{σ:L2.St}(r0:SR K H0 B Hf sd σ H){Hf1:Hp}(r:SR K H0 B Hf1 sd σ H1)(g:Same H H1)(i:Nat){p:Addr}{t:S}(hp:H p=none)(hf:Hf1 p=none)(ho:t.own=true)(h:S.at K Hf1 H1 p t):
  SR K H0 B Hf1 (sd.set i (some t)) (σ.set i (some (.ref p))) H1 where
 sub:=r.sub
 all:=r.all
 ban:=r.ban
 bt:=r.bt
 len:=by rw[List.length_set,List.length_set];exact r.len
 imS:=fun j d' e z=>by
  by_cases hj:i=j
  ·subst hj
   have hi:i<sd.length:=by
    have:=(List.getElem?_eq_some_iff.mp e).1;simpa using this
   rw[List.getElem?_set_self hi] at e
   cases e
   rw[ho] at z;cases z
  ·rw[List.getElem?_set_ne hj] at e ⊢
   exact r.imS j d' e z
 ow:=fun j u e hu=>by
  by_cases hj:i=j
  ·subst hj
   have hi:i<sd.length:=by
    have:=(List.getElem?_eq_some_iff.mp e).1;simpa using this
   rw[List.getElem?_set_self hi] at e
   cases e
   exact⟨p,by rw[List.getElem?_set_self (by rw[<-r.len];exact hi)],r0.all.free hp,hf,h⟩
  ·rw[List.getElem?_set_ne hj] at e ⊢
   exact r.ow j u e hu
 sep:=fun j k u w q hjk e1 o1 e2 o2 e3 e4=>by
  have new:∀{l:Nat},i=l->(σ.set i (some (V.ref p)))[l]?=some (some (.ref q))->q=p:=fun {l} z e=>by
   subst z
   have hi:i<σ.length:=by
    have:=(List.getElem?_eq_some_iff.mp e).1;simpa using this
   rw[List.getElem?_set_self hi] at e
   cases e;rfl
  have old:∀{l:Nat}{u:S},i≠l->(sd.set i (some t))[l]?=some (some u)->u.own=true->(σ.set i (some (V.ref p)))[l]?=some (some (.ref q))->q≠p:=fun {l u} n e ou z=>by
   rw[List.getElem?_set_ne n] at e z
   obtain⟨q',e1,_,_,e4⟩:=r0.ow l u e ou
   rw[z] at e1
   cases e1
   obtain⟨o,eo⟩:=Fx e4
   exact Zw eo hp
  by_cases n1:i=j
  ·have n2:i≠k:=fun z=>hjk (n1.symm.trans z)
   exact old n2 e2 o2 e4 (new n1 e3)
  ·by_cases n2:i=k
   ·exact old n1 e1 o1 e3 (new n2 e4)
   ·rw[List.getElem?_set_ne n1] at e1 e3
    rw[List.getElem?_set_ne n2] at e2 e4
    exact r.sep j k u w q hjk e1 o1 e2 o2 e3 e4
def Wy (i:Nat)(f:Zf->M (List D))(sd:Zf):M O:=(f sd).bind fun ds=>.ok (.nx (sd.set i (some (.ow ds))))
def Jl (i:Nat){x:Str}{e:Expr}{f:Zf->M (List D)}{pos':Pos}(hN:X.N.Nodup)(h:Zfs X E e f)(hi:X.N[i]?=some x:=by rfl)(hx:Za8 X.env.scope x:=by trivial)(hs:swapsWith e (some (.Name x pos')) pos.line X.env=pure false:=by rfl)(hf:X.fn x=true\/X.env.scope.names.lookup x=some .local:=by first|exact .inl rfl|exact .inr rfl|assumption):
  N8 X E (.Assign [.Name x pos'] e pos) (Wy i f):=by
 obtain⟨t,p,q⟩:=h
 refine⟨_,Vr hN hi hx p hs hf,fun H0 B Hf sd σ H D sr h=>?_⟩
 refine q H0 B Hf sd σ H _ sr (PoS.bindF sr h fun ds p xs Hf1 H1 _ g1 sr1 e1 e2 e3 e4 h1=>?_)
 exact h1 _ Hf1 H1 (Same.refl _) (sr.set_new sr1 g1.all i e1 e2 rfl ⟨xs,e3,e4⟩)
def K8 (i:Nat)(f:Zf->M D)(sd:Zf):M O:=match sd[i]? with
 |some (some (.ow ds))=>(f sd).bind fun d=>if few ds then .ok (.nx (sd.set i (some (.ow (ds++[d]))))) else .bad
 |_=>.bad
def Kr (i:Nat){x:Str}{e:Expr}{f:Zf->M D}{p1 p2 p3:Pos}(h:Y0 X E e f)(hi:X.N[i]?=some x:=by rfl)(hv:Rz X.env.scope x:=by trivial)
  (hd:(x==("__debug__":Str))=false:=by decide) (hcd:(x==("__classdict__":Str))=false:=by decide)
  (hse:starEach [e] X.env=(false,eval e X.env)::starEach [] X.env:=by rfl)
  (hbase:attributeBase (.Name x p1) "append" X.env (eval (.Name x p1) X.env)=eval (.Name x p1) X.env:=by rfl)
  (hfew:((backTo p3 (starEach [e] X.env)).all (fun x=>!x.1)&&(backToKw p3 (keywordEach [] X.env)).all (fun x=>x.1.isSome)
   && decide ([e].length+([]:List Keyword).length+(if([]:List Keyword).isEmpty then 0 else 1)<30))=true:=by rfl)
  (hline:(p2.endLine==p3.line)=true:=by rfl) (hplain:(backTo p3 (starEach ([]:List Expr) X.env)).any (·.1)=false:=by rfl)
  (hsw:swapsWith (.Call (.Attribute (.Name x p1) "append" p2) [e] [] p3) none pos.line X.env=pure false:=by rfl):
  N8 X E (.Expr (.Call (.Attribute (.Name x p1) "append" p2) [e] [] p3) pos) (K8 i f):=by
 obtain⟨t,pt,q⟩:=h
 refine⟨_,V6 (Zbs PySem.F.plainAttrs_list PySem.F.slot_list_append PySem.F.type_list_append Wp (Z9 hi hv hd hcd) (Qh pt Xa hse) hbase hfew hline hse hplain) hsw,fun H0 B Hf sd σ H D sr h=>?_⟩
 unfold K8 at h
 split at h
 ·rename_i ds ei
  obtain⟨p,z1,z2,z3,xs,z4,z5⟩:=sr.ow i _ ei rfl
  refine⟨_,z1,.inl ⟨rfl,xs,SqL.of z4⟩,?_⟩
  refine q H0 B Hf sd σ H _ sr (PoS.bind sr h fun d v Hf1 H1 _ g1 sr1 rv h1=>?_)
  split at h1
  ·rename_i hf
   have z5':=z5.mono g1.fz
   have hl:xs.length<sizeLine:=by
    have h1:=of_decide_eq_true hf
    have h2:=sizeLine_eq
    rw[<-z5.length,h2];lia
   refine⟨p,xs,v,rfl,rfl,g1.all _ _ z4,hl,?_⟩
   exact h1 _ Hf1 _ (Same.refl _) (sr1.change ei rfl z1 rfl ⟨_,Zo,z5'.append (Reps.cons rv Reps.nil)⟩)
  ·exact h1.elim
 ·exact h.elim
def L7 (i:Nat)(sd:Zf):M O:=match sd[i]? with
 |some (some (.ow ds))=>.ok (.rt (.ow ds))
 |_=>.bad
def U9 (i:Nat){x:Str}{p1:Pos}(hi:X.N[i]?=some x:=by rfl)(hv:Rz X.env.scope x:=by trivial)
  (hd:(x==("__debug__":Str))=false:=by decide) (hcd:(x==("__classdict__":Str))=false:=by decide):N8 X E (.Return (some (.Name x p1)) pos) (L7 i):=by
 refine⟨_,W3 (Z9 hi hv hd hcd),fun H0 B Hf sd σ H D sr h=>?_⟩
 unfold L7 at h
 split at h
 ·rename_i ds ei
  obtain⟨p,z1,z2,z3,z4⟩:=sr.ow i _ ei rfl
  exact⟨_,z1,h _ Hf H (Same.refl _) sr.fin ⟨p,rfl,z2,z3,z4⟩⟩
 ·exact h.elim
def frz (i:Nat)(sd:Zf):Zf:=match sd[i]? with
 |some (some (.ow ds))=>sd.set i (some (.im (.lst ds)))
 |_=>sd
def Bh (i:Nat)(f:Zf->M O)(sd:Zf):M O:=f (frz i sd)
def G9 (i:Nat){st:List Stmt}{f:Zf->M O}(h:Gs X E st f):Gs X E st (Bh i f):=by
 obtain⟨t,p,q⟩:=h
 refine⟨t,p,fun H0 B Hf sd σ H D sr h=>?_⟩
 unfold Bh frz at h
 split at h
 ·rename_i ds ei
  obtain⟨Hf',e,sr'⟩:=sr.freeze ei
  exact q H0 B Hf' _ σ H D sr' (PoS.weak e h)
 ·exact q H0 B Hf sd σ H D sr h
theorem Wa {Xc:Cx}{pins:List (Addr×Obj)}{σ:L2.St}{H:Hp}{s:Shared}(I:Inv Xc pins σ H s)(dx:D)(e:Value->Bool)(he:∀d v u,Rep Xc.K H d v->RelV v u->e u=D.eq d dx):
  ∀{ds:List D}{xs:List V}{us:List Value},Reps Xc.K H ds xs->Vals xs us->us.any e=ds.any fun d=>D.eq d dx
 |[],xs,us,r,v=>by
  rw[reps_nil.mp r] at v
  cases v
  rfl
 |d::ds,xs,us,r,v=>by
  obtain⟨x,xr,rfl,r1,r2⟩:=reps_cons.mp r
  cases v with
  |cons v1 v2=>rw[List.any_cons,List.any_cons,he d x _ r1 v1,Wa I dx e he r2 v2]
def Cf {Xc:Cx}{H:Hp}{ds:List D}:∀{xs:List V}{us:List Value}{u:Value},Reps Xc.K H ds xs->Vals xs us->u∈us->∃d v,d∈ds/\Rep Xc.K H d v/\RelV v u:=by
 induction ds with
 |nil=>
  intro xs us u r v hu
  rw[reps_nil.mp r] at v
  cases v
  cases hu
 |cons d ds ih=>
  intro xs us u r v hu
  obtain⟨x,xr,rfl,r1,r2⟩:=reps_cons.mp r
  cases v with
  |cons v1 v2=>
   rcases List.mem_cons.mp hu with rfl|hu
   ·exact⟨d,x,List.mem_cons_self,r1,v1⟩
   ·obtain⟨d',v',h1,h2,h3⟩:=ih r2 v2 hu
    exact⟨d',v',List.mem_cons_of_mem _ h1,h2,h3⟩
def D1 (dx:D)(ds:List D):Bool:=ds.any fun d=>D.eq d dx
def Zl7 (K:PySem.W.Frag)(neg:Bool):R2:=fun x y H Q=>∃dx ds,Rep K H dx x/\(Rep K H (.lst ds) y\/Rep K H (.tup ds) y)/\D.deps ds<=60/\Q (.bl (if neg then !D1 dx ds else D1 dx ds)) H
theorem Sv:∀{ds:List D}{d:D},d∈ds->d.dep<=D.deps ds
 |e::ds,d,h=>by
  rw[D.deps]
  rcases List.mem_cons.mp h with rfl|h
  ·lia
  ·have:=Sv h;lia
open Classical in
theorem Zjl (hu:X.A.units+64<cLine):OpR X (compareOp .In) (Zl7 X.K false):=by
 intro pins s σ H x y v u Q I rx ry h
 obtain⟨dx,ds,hx,hy,hd,q⟩:=h
 let e:Value->Bool:=fun u=>decide (∃d v,Rep X.K H d v/\RelV v u/\D.eq d dx=true)
 have he:∀d v u,Rep X.K H d v->RelV v u->e u=D.eq d dx:=fun d v u r1 r2=>by
  cases z:D.eq d dx with
  |true=>exact decide_eq_true ⟨d,v,r1,r2,z⟩
  |false=>
   refine decide_eq_false ?_
   rintro⟨d',v',a1,a2,a3⟩
   have e1:v'=v:=RelV.inj a2 r2
   subst e1
   rw[G0 I d d' _ r1 a1,a3] at z
   cases z
 have each:∀{xs:List V}{us:List Value},Reps X.K H ds xs->Vals xs us->∀w∈us,SeqAt.EqAt X.A.in1 s w v (e w):=fun {xs us} r1 r2 w hw=>by
  obtain⟨d,z,m1,m2,m3⟩:=Cf r1 r2 hw
  rw[he d z w m2 m3]
  refine(Su I d dx X.A.in1 z x w v ?_ m2 hx m3 rx).eq
  have:=Sv m1
  show X.A.units+1+_<_
  lia
 rcases hy with hy|hy
 ·obtain⟨p,xs,rfl,hp,hr⟩:=rep_lst.mp hy
  cases ry
  obtain⟨its,r,pl,hz⟩:=I.list hp
  refine SeqAt.in_listAt e pl.isList (fun w hw=>each hr r w (by simpa using hw)) ⟨.bl _,H,I,rfl,?_⟩
  rw[show its.toArray.any e=its.any e by simp,Wa I dx e he hr r]
  exact q
 ·obtain⟨p,xs,rfl,hp,hr⟩:=Qc hy
  cases ry
  obtain⟨its,r,pl,hz⟩:=I.tuple hp
  refine SeqAt.in_tupleAt e pl (fun w hw=>each hr r w (by simpa using hw)) ⟨.bl _,H,I,rfl,?_⟩
  rw[show its.toArray.any e=its.any e by simp,Wa I dx e he hr r]
  exact q
open Classical in
theorem O3 (hu:X.A.units+64<cLine):OpR X (compareOp .NotIn) (Zl7 X.K true):=by
 intro pins s σ H x y v u Q I rx ry h
 obtain⟨dx,ds,hx,hy,hd,q⟩:=h
 let e:Value->Bool:=fun u=>decide (∃d v,Rep X.K H d v/\RelV v u/\D.eq d dx=true)
 have he:∀d v u,Rep X.K H d v->RelV v u->e u=D.eq d dx:=fun d v u r1 r2=>by
  cases z:D.eq d dx with
  |true=>exact decide_eq_true ⟨d,v,r1,r2,z⟩
  |false=>
   refine decide_eq_false ?_
   rintro⟨d',v',a1,a2,a3⟩
   have e1:v'=v:=RelV.inj a2 r2
   subst e1
   rw[G0 I d d' _ r1 a1,a3] at z
   cases z
 have each:∀{xs:List V}{us:List Value},Reps X.K H ds xs->Vals xs us->∀w∈us,SeqAt.EqAt X.A.in1 s w v (e w):=fun {xs us} r1 r2 w hw=>by
  obtain⟨d,z,m1,m2,m3⟩:=Cf r1 r2 hw
  rw[he d z w m2 m3]
  refine(Su I d dx X.A.in1 z x w v ?_ m2 hx m3 rx).eq
  have:=Sv m1
  show X.A.units+1+_<_
  lia
 rcases hy with hy|hy
 ·obtain⟨p,xs,rfl,hp,hr⟩:=rep_lst.mp hy
  cases ry
  obtain⟨its,r,pl,hz⟩:=I.list hp
  refine SeqAt.notIn_listAt e pl.isList (fun w hw=>each hr r w (by simpa using hw)) ⟨.bl _,H,I,rfl,?_⟩
  rw[show its.toArray.any e=its.any e by simp,Wa I dx e he hr r]
  exact q
 ·obtain⟨p,xs,rfl,hp,hr⟩:=Qc hy
  cases ry
  obtain⟨its,r,pl,hz⟩:=I.tuple hp
  refine SeqAt.notIn_tupleAt e pl (fun w hw=>each hr r w (by simpa using hw)) ⟨.bl _,H,I,rfl,?_⟩
  rw[show its.toArray.any e=its.any e by simp,Wa I dx e he hr r]
  exact q
def Zft:D->D->M D
 |x,.lst ds=>if D.deps ds<=60 then .ok (.bl (D1 x ds)) else .bad
 |x,.tup ds=>if D.deps ds<=60 then .ok (.bl (D1 x ds)) else .bad
 |_,_=>.bad
def Pg:D->D->M D
 |x,.lst ds=>if D.deps ds<=60 then .ok (.bl (!D1 x ds)) else .bad
 |x,.tup ds=>if D.deps ds<=60 then .ok (.bl (!D1 x ds)) else .bad
 |_,_=>.bad
def Zcb (hu:X.A.units+64<cLine):N9 X E (compareOp .In) Zft:=by
 refine⟨_,Zjl hu,fun Hf H x y dx dy Q e rx ry q=>?_⟩
 unfold Zft at q
 split at q
 ·split at q
  ·rename_i hd
   exact⟨_,_,rx.mono e,.inl (ry.mono e),hd,Po.ret e q (rep_bl.mpr rfl)⟩
  ·exact q.elim
 ·split at q
  ·rename_i hd
   exact⟨_,_,rx.mono e,.inr (ry.mono e),hd,Po.ret e q (rep_bl.mpr rfl)⟩
  ·exact q.elim
 ·exact q.elim
def Zcc (hu:X.A.units+64<cLine):N9 X E (compareOp .NotIn) Pg:=by
 refine⟨_,O3 hu,fun Hf H x y dx dy Q e rx ry q=>?_⟩
 unfold Pg at q
 split at q
 ·split at q
  ·rename_i hd
   exact⟨_,_,rx.mono e,.inl (ry.mono e),hd,Po.ret e q (rep_bl.mpr rfl)⟩
  ·exact q.elim
 ·split at q
  ·rename_i hd
   exact⟨_,_,rx.mono e,.inr (ry.mono e),hd,Po.ret e q (rep_bl.mpr rfl)⟩
  ·exact q.elim
 ·exact q.elim
def D.isN:D->Bool
 |.non=>true
 |_=>false
def Zfu:D->D->M D
 |x,.non=>.ok (.bl x.isN)
 |_,_=>.bad
def Ks:D->D->M D
 |x,.non=>.ok (.bl (!x.isN))
 |_,_=>.bad
def F4 {K:PySem.W.Frag}{H:Hp}{d:D}{v:V}(r:Rep K H d v):decide (v=.non)=d.isN:=by
 cases d with
 |non=>rw[rep_non.mp r];rfl
 |bl b=>rw[rep_bl.mp r];rfl
 |int b=>rw[rep_int.mp r];rfl
 |str b=>rw[rep_str.mp r];rfl
 |tup b=>obtain⟨_,_,e,_⟩:=rep_tup.mp r;rw[e];rfl
 |lst b=>obtain⟨_,_,e,_⟩:=rep_lst.mp r;rw[e];rfl
def Zcd:N9 X E (compareOp .Is) Zfu:=by
 refine⟨_,Ziv,fun Hf H x y dx dy Q e rx ry q=>?_⟩
 unfold Zfu at q
 split at q
 ·exact⟨rep_non.mp ry,Po.ret e q (by rw[F4 rx];exact rep_bl.mpr rfl)⟩
 ·exact q.elim
def Ph:N9 X E (compareOp .IsNot) Ks:=by
 refine⟨_,Ze3,fun Hf H x y dx dy Q e rx ry q=>?_⟩
 unfold Ks at q
 split at q
 ·exact⟨rep_non.mp ry,Po.ret e q (by rw[F4 rx];exact rep_bl.mpr rfl)⟩
 ·exact q.elim
end
section
variable {X:Cx}{pins:List (Addr×Obj)}{σ:L2.St}{H:Hp}{s:Shared}{h':Heap}{t':Nat}{fp:List Addr}
def _root_.L2.Inv.turnedT {T:Addr}{o:HO}(I:Inv X pins σ H s)(hf:∀b∈fp,Rm X pins H b)(k:∀b u,b ∉ fp->s.heap.get? b=some u->h'.get? b=some u)(hT:s.heap.objs.size<=T)(new:ObjOk X.prog X.w (upd H T o) h' T o):
  Inv X pins σ (upd H T o) {s with heap:=h',toks:=t'}:=by
 have hn:=I.hok.fresh hT
 have ne:∀b u,s.heap.get? b=some u->b≠T:=fun b u e=>Nat.ne_of_lt (Nat.lt_of_lt_of_le (Heap.lt_size e) hT)
 refine I.step (g':=s.gens) (d':=s.drawn) (ch:=fp) (fun b hb=>?_) (fun b u _ _ hc e _=>k b u hc e) (fun b u _ _ hc e _=>⟨u.slots,k b u hc e⟩) (fun b u _ e n=>by rw[Zm (ne b u e)];exact n) (fun b u hc e=>⟨u,k b u hc e⟩)
  (fun b xs e=>by rw[Zm (Zw e hn)];exact e) (fun b u xs e=>by rw[Zm (Zw e hn)];exact e) (fun b l c q e=>by rw[Zm (Zw e hn)];exact e) (fun m hm=>?_) (fun b u e=>?_) I.bare
 ·obtain⟨f0,f1,f2,f3,f4,f5⟩:=hf b hb
  exact⟨f3,f1,f4,f5⟩
 ·obtain⟨ob,es,ep,ho,r⟩:=hm
  exact⟨ob,es,ep,k _ ob (fun z=>(hf _ z).2.1 rfl) ho,r⟩
 ·by_cases hb:b=T
  ·subst hb;rw[Zo] at e;cases e;exact new
  ·rw[Zm hb] at e
   have nf:∀c v,H c=some v->c ∉ fp:=fun c v e z=>by rw[(hf c z).1] at e;cases e
   refine(I.hok b u e).stay (fun c v hc q=>k c v ?_ q) (fun c q=>by rw[Zm (Zw q hn)];exact q) (fun c xs q=>by rw[Zm (Zw q hn)];exact q) fun c _ _ q=>by rw[Zm (Zw q hn)];exact q
   rcases hc with rfl|hc
   ·exact nf _ _ e
   ·exact nf _ _ hc
def _root_.L2.Inv.turnedF (I:Inv X pins σ H s)(hf:∀b∈fp,Rm X pins H b)(k:∀b u,b ∉ fp->s.heap.get? b=some u->h'.get? b=some u):Inv X pins σ H {s with heap:=h',toks:=t'}:=by
 refine I.step (g':=s.gens) (d':=s.drawn) (ch:=fp) (fun b hb=>?_) (fun b u _ _ hc e _=>k b u hc e) (fun b u _ _ hc e _=>⟨u.slots,k b u hc e⟩) (fun b u _ e n=>n) (fun b u hc e=>⟨u,k b u hc e⟩)
  (fun b xs e=>e) (fun b u xs e=>e) (fun _ _ _ _ e=>e) (fun m hm=>?_) (fun b u e=>?_) I.bare
 ·obtain⟨f0,f1,f2,f3,f4,f5⟩:=hf b hb
  exact⟨f3,f1,f4,f5⟩
 ·obtain⟨ob,es,ep,ho,r⟩:=hm
  exact⟨ob,es,ep,k _ ob (fun z=>(hf _ z).2.1 rfl) ho,r⟩
 ·have nf:∀c v,H c=some v->c ∉ fp:=fun c v e z=>by rw[(hf c z).1] at e;cases e
  refine(I.hok b u e).stay (fun c v hc q=>k c v ?_ q) (fun c q=>q) (fun c xs q=>q) fun _ _ _ q=>q
  rcases hc with rfl|hc
  ·exact nf _ _ e
  ·exact nf _ _ hc
end
structure ZA (z TI TO i1 i2:Addr):Prop where
 TIz:TI≠z
 TOz:TO≠z
 i1z:i1≠z
 i2z:i2≠z
 TITO:TI≠TO
 TIi1:TI≠i1
 TIi2:TI≠i2
 TOi1:TO≠i1
 TOi2:TO≠i2
 i12:i1≠i2
def Zo9 (n:Nat):ZA (n+4) (n+2) (n+3) n (n+1):=
 ⟨Nat.ne_of_lt (by lia),Nat.ne_of_lt (by lia),Nat.ne_of_lt (by lia),Nat.ne_of_lt (by lia),Nat.ne_of_lt (by lia),Nat.ne_of_gt (by lia),Nat.ne_of_gt (by lia),Nat.ne_of_gt (by lia),Nat.ne_of_gt (by lia),Nat.ne_of_lt (by lia)⟩
section
variable {X:Cx}{E:XK}{pos p p2:Pos}{es:List Expr}{k:Nat}
def Zfv:List D->List D->List D:=List.zipWith fun x y=>.tup [x,y]
def Zce (xs ys:List D)(i:Nat):(Zfv xs ys)[i]?=match xs[i]?,ys[i]? with
  |some x,some y=>some (.tup [x,y])
  |_,_=>none:=by
 unfold Zfv
 rw[List.getElem?_zipWith]
 cases xs[i]?<;>cases ys[i]?<;>rfl
end
def Zfw:D->Option Yo
 |.int i=>some (.inl i)
 |.str x=>some (.inr x)
 |_=>none
def K9:List D->Option (List Yo)
 |[]=>some []
 |d::r=>match Zfw d,K9 r with
  |some k,some ks=>some (k::ks)
  |_,_=>none
def Zcf {K:PySem.W.Frag}{H:Hp}{d:D}{k:Yo}{v:V}(e:Zfw d=some k)(r:Rep K H d v):v=kV k:=by
 cases d with
 |int i=>cases e;exact rep_int.mp r
 |str x=>cases e;exact rep_str.mp r
 |non=>cases e
 |bl _=>cases e
 |tup _=>cases e
 |lst _=>cases e
theorem Sw {K:PySem.W.Frag}{H:Hp}:∀{ds:List D}{ks:List Yo}{vs:List V},K9 ds=some ks->Reps K H ds vs->vs=ks.map kV
 |[],ks,vs,e,r=>by cases e;rw[reps_nil.mp r];rfl
 |d::ds,ks,vs,e,r=>by
  obtain⟨x,xr,rfl,r1,r2⟩:=reps_cons.mp r
  unfold K9 at e
  split at e
  ·rename_i k ks' e1 e2
   cases e
   rw[Zcf e1 r1,Sw e2 r2]
   rfl
  ·cases e
def Zcg {κ:Type}[DecidableEq κ](kvs:List (κ×D))(k:κ)(d:D):List (κ×D):=
 if(kvs.any fun kv=>decide (kv.1=k))=true then kvs.map (fun kv=>if kv.1=k then(kv.1,d) else kv) else kvs++[(k,d)]
def Y2 {κ:Type}[DecidableEq κ](kvs:List (κ×D))(k:κ):Option D:=(kvs.find? fun kv=>decide (kv.1=k)).map (·.2)
section
variable {κ:Type} [DecidableEq κ]
variable {K:PySem.W.Frag}{H:Hp}
theorem RepKV.any {kvs:List (κ×D)}{ys:List (κ×V)}(r:RepKV K H kvs ys)(k:κ):(kvs.any fun kv=>decide (kv.1=k))=(ys.any fun kv=>decide (kv.1=k)):=by
 unfold RepKV at r
 induction r with
 |nil=>rfl
 |cons h t ih=>rw[List.any_cons,List.any_cons,ih,h.1]
def RepKV.get {kvs:List (κ×D)}{ys:List (κ×V)}(r:RepKV K H kvs ys)(k:κ){d:D}(e:Y2 kvs k=some d):∃v,Xp ys k=some v/\Rep K H d v:=by
 unfold RepKV at r
 induction r with
 |nil=>cases e
 | @cons p q ps qs h t ih=>
  by_cases hk:p.1=k
  ·have e1:Y2 (p::ps) k=some p.2:=by simp[Y2,List.find?_cons,hk]
   rw[e1] at e
   cases e
   exact⟨q.2,Y9 (h.1▸hk),h.2⟩
  ·have e1:Y2 (p::ps) k=Y2 ps k:=by simp[Y2,List.find?_cons,hk]
   rw[e1] at e
   obtain⟨v,h1,h2⟩:=ih e
   exact⟨v,by rw[Yz (fun z=>hk (h.1.trans z))];exact h1,h2⟩
theorem RepKV.none {kvs:List (κ×D)}{ys:List (κ×V)}(r:RepKV K H kvs ys)(k:κ)(e:Y2 kvs k=.none):Xp ys k=.none:=by
 unfold RepKV at r
 induction r with
 |nil=>rfl
 | @cons p q ps qs h t ih=>
  by_cases hk:p.1=k
  ·have e1:Y2 (p::ps) k=some p.2:=by simp[Y2,List.find?_cons,hk]
   rw[e1] at e
   cases e
  ·have e1:Y2 (p::ps) k=Y2 ps k:=by simp[Y2,List.find?_cons,hk]
   rw[e1] at e
   rw[Yz (fun z=>hk (h.1.trans z))];exact ih e
def RepKV.repl {kvs:List (κ×D)}{ys:List (κ×V)}(r:RepKV K H kvs ys)(k:κ){d:D}{v:V}(h:Rep K H d v):RepKV K H (kvs.map fun kv=>if kv.1=k then(kv.1,d) else kv) (ys.map fun kv=>if kv.1=k then(kv.1,v) else kv):=by
 unfold RepKV at r ⊢
 induction r with
 |nil=>exact .nil
 | @cons p q ps qs hp t ih=>
  refine .cons ?_ ih
  show(if p.1=k then(p.1,d) else p).1=(if q.1=k then(q.1,v) else q).1/\Rep K H (if p.1=k then(p.1,d) else p).2 (if q.1=k then(q.1,v) else q).2
  by_cases hk:p.1=k
  ·rw[if_pos hk,if_pos (hp.1▸hk)];exact⟨hp.1,h⟩
  ·rw[if_neg hk,if_neg (fun z=>hk (hp.1.trans z))];exact hp
def RepKV.put {kvs:List (κ×D)}{ys:List (κ×V)}(r:RepKV K H kvs ys)(k:κ){d:D}{v:V}(h:Rep K H d v):RepKV K H (Zcg kvs k d) (Jz ys k v):=by
 unfold Zcg Jz
 rw[r.any k]
 split
 ·exact r.repl k h
 ·exact Paired.snoc r ⟨rfl,h⟩
theorem RepKV.length {kvs:List (κ×D)}{ys:List (κ×V)}(r:RepKV K H kvs ys):kvs.length=ys.length:=Paired.length r
end
section
variable {X:Cx}{E:XK}{pos p1 p2 pos':Pos}{key value:Expr}{x:Str}
def Bi {K:PySem.W.Frag}{Hf H:Hp}{ds:List D}{ks:List Yo}{y:V}(e:K9 ds=some ks)(sub:Same Hf H)(r:Rep K Hf (.tup ds) y):∃b,y=.ref b/\H b=some (.tup (ks.map kV)):=by
 obtain⟨b,xs,rfl,hb,hr⟩:=rep_tup.mp r
 rw[Sw e hr] at hb
 exact⟨b,rfl,sub _ _ hb⟩
end
def Zch:D->Bool
 |.non=>true
 |.bl _=>true
 |.int _=>true
 |.str _=>true
 |_=>false
def Zci {K:PySem.W.Frag}{H H':Hp}{d:D}{v:V}(h:Zch d=true)(r:Rep K H d v):Rep K H' d v:=by
 cases d with
 |non=>exact rep_non.mpr (rep_non.mp r)
 |bl _=>exact rep_bl.mpr (rep_bl.mp r)
 |int _=>exact rep_int.mpr (rep_int.mp r)
 |str _=>exact rep_str.mpr (rep_str.mp r)
 |tup _=>cases h
 |lst _=>cases h
def Sx (i:Nat)(f:Zf->M D)(sd:Zf):M D:=match f (frz i sd) with
 |.ok d=>if Zch d then .ok d else .bad
 |_=>.bad
def W0 (i:Nat)(f:Zf->M Bool)(sd:Zf):M Bool:=match f (frz i sd) with
 |.ok b=>.ok b
 |_=>.bad
section
variable {X:Cx}{E:XK}{e:Expr}
def Zcj {K:PySem.W.Frag}{H0 Hf H:Hp}{B:Addr->Prop}{sd:Zf}{σ:L2.St}(sr:SR K H0 B Hf sd σ H)(i:Nat):∃Hf',Same Hf Hf'/\SR K H0 B Hf' (frz i sd) σ H:=by
 unfold frz
 split
 ·rename_i ds ei
  exact sr.freeze ei
 ·exact⟨Hf,Same.refl _,sr⟩
def F5 (i:Nat){f:Zf->M D}(h:Y0 X E e f):Y0 X E e (Sx i f):=by
 obtain⟨t,p,q⟩:=h
 refine⟨t,p,fun H0 B Hf sd σ H Q sr h=>?_⟩
 obtain⟨Hf',e1,sr'⟩:=Zcj sr i
 refine q H0 B Hf' _ σ H Q sr' ?_
 unfold Sx at h
 cases ef:f (frz i sd) with
 |ok d=>
  rw[ef] at h
  dsimp only at h
  split at h
  ·rename_i hfl
   exact fun v Hf2 H2 g r=>h v Hf H2 ⟨Same.refl _,sr.sub.trans g.all,g.all,fun _ _ z=>z⟩ (Zci hfl r)
  ·exact h.elim
 |ex x=>rw[ef] at h;exact h.elim
 |bad=>rw[ef] at h;exact h.elim
def Sy (i:Nat){f:Zf->M Bool}(h:Lz X E e f):Lz X E e (W0 i f):=by
 obtain⟨t,p,q⟩:=h
 refine⟨t,p,fun H0 B Hf sd σ H Q sr h=>?_⟩
 obtain⟨Hf',e1,sr'⟩:=Zcj sr i
 refine q H0 B Hf' _ σ H Q sr' ?_
 unfold W0 at h
 cases ef:f (frz i sd) with
 |ok d=>
  rw[ef] at h
  exact fun v Hf2 H2 g r=>h v Hf H2 ⟨Same.refl _,sr.sub.trans g.all,g.all,fun _ _ z=>z⟩ r
 |ex x=>rw[ef] at h;exact h.elim
 |bad=>rw[ef] at h;exact h.elim
end
def Pi (cells:List (Str×Addr)):List (Str×NameKind)->List (Str×Addr)->List (Str×Addr)
 |[],acc=>acc
 |(n,k)::r,acc=>if k==NameKind.free then(match cells.lookup n with
  |some c=>Pi cells r ((n,c)::acc)
  |none=>Pi cells r acc) else Pi cells r acc
theorem Na (cells:List (Str×Addr)):∀(names:List (Str×NameKind)) (acc:List (Str×Addr)),(∀p∈acc,cells.lookup p.1=some p.2)->∀p∈Pi cells names acc,cells.lookup p.1=some p.2
 |[],acc,h=>h
 |(n,k)::r,acc,h=>by
  unfold Pi
  split
  ·split
   ·rename_i c hc
    refine Na cells r _ fun p hp=>?_
    rcases List.mem_cons.mp hp with rfl|hp
    ·exact hc
    ·exact h p hp
   ·exact Na cells r acc h
  ·exact Na cells r acc h
theorem Wr (cells:List (Str×Addr)):∀(names:List (Str×NameKind)) (acc:List (Str×Addr)),∀p∈acc,p∈Pi cells names acc
 |[],acc,p,h=>h
 |(n,k)::r,acc,p,h=>by
  unfold Pi
  split
  ·split
   ·exact Wr cells r _ p (List.mem_cons_of_mem _ h)
   ·exact Wr cells r acc p h
  ·exact Wr cells r acc p h
theorem Nb (cells:List (Str×Addr)):∀(names:List (Str×NameKind)) (acc:List (Str×Addr)) (n:Str) (c:Addr),(n,NameKind.free)∈names->cells.lookup n=some c->(n,c)∈Pi cells names acc
 |[],_,_,_,h,_=>by cases h
 |(m,k)::r,acc,n,c,h,hc=>by
  unfold Pi
  rcases List.mem_cons.mp h with h|h
  ·cases h
   rw[if_pos (by decide),hc]
   exact Wr cells r _ _ List.mem_cons_self
  ·split
   ·split
    ·exact Nb cells r _ n c h hc
    ·exact Nb cells r _ n c h hc
   ·exact Nb cells r _ n c h hc
def Sz {β:Type}:∀{l:List (Str×β)}{n:Str}{c:β},l.lookup n=some c->(n,c)∈l:=fun h=>PySem.mem_of_lookup h
theorem Re {β:Type}:∀{l:List (Str×β)}{n:Str}{c:β},(n,c)∈l->∃d,l.lookup n=some d
 |[],_,_,h=>by cases h
 |(m,d)::r,n,c,h=>by
  rw[List.lookup_cons]
  by_cases e:n=m
  ·subst e;exact⟨d,by simp⟩
  ·have e':(n==m)=false:=beq_eq_false_iff_ne.mpr e
   rw[e']
   rcases List.mem_cons.mp h with h|h
   ·cases h;exact absurd rfl e
   ·exact Re h
def Ue {scope:Scope}{env:Env}(h:∀y∈scope.names,y.2=.free->∃c,env.cells.lookup y.1=some c):closureFor scope env=pure (Pi env.cells scope.names []):=by
 have key:∀(names:List (Str×NameKind)) (acc:List (Str×Addr)),(∀y∈names,y.2=.free->∃c,env.cells.lookup y.1=some c) ->
   (forIn names acc fun(x:Str×NameKind) (cs:List (Str×Addr))=>(do
    if x.2==.free then
     let c <-cellOf env x.1
     pure (ForInStep.yield ((x.1,c)::cs))
    else pure (ForInStep.yield cs):Sem _))=pure (Pi env.cells names acc):=by
  intro names
  induction names with
  |nil=>intro acc _;rfl
  |cons y r ih=>
   intro acc hy
   obtain⟨n,k⟩:=y
   rw[List.forIn_cons]
   unfold Pi
   by_cases hk:(k==NameKind.free)=true
   ·obtain⟨c,hc⟩:=hy (n,k) List.mem_cons_self (by simpa using hk)
    have e1:cellOf env n=pure c:=by unfold cellOf;rw[hc]
    simp only[hk,if_true,e1,hc,pure_bind]
    exact ih _ fun z hz=>hy z (List.mem_cons_of_mem _ hz)
   ·simp only[hk,Bool.false_eq_true,if_false,pure_bind]
    exact ih _ fun z hz=>hy z (List.mem_cons_of_mem _ hz)
 have e:=key scope.names [] h
 unfold closureFor
 simp only[bind_pure]
 exact e
def Zfx {X:Cx}{Nc:List Str}{n0:Nat}{caps:List Nat}{scope sc:Scope}(hsc:X.env.scope=sc)(hkf:sc.kind=.function)(hcell:∀y∈scope.names,y.2≠.cell)(hfree:∀y∈scope.names,y.2=.free->sc.names.lookup y.1=some .cell)(hcl:∀y∈scope.names,y.2=.free->∃c,X.env.cells.lookup y.1=some c)(hl:Nc.length=n0+caps.length)(hcap:∀(i j:Nat) (x:Str),Nc[n0+i]?=some x->caps[i]?=some j->X.N[j]?=some x/\scope.names.lookup x=some .free):CapOk X Nc n0 caps scope (Pi X.env.cells scope.names []):=by
 have frees:∀(l:List (Str×NameKind)) (y:Str),(∀p∈l,p.2≠.cell)->(∀p∈l,p.2=.free->sc.names.lookup p.1=some .cell) ->
   ((l.map fun(n,k)=>if(k==NameKind.free&&X.env.scope.kind==.function&&X.env.kindOf n==some .cell) then(n,NameKind.cell) else(n,k)).lookup y=some .cell\/(l.map fun(n,k)=>if(k==NameKind.free&&X.env.scope.kind==.function&&X.env.kindOf n==some .cell) then(n,NameKind.cell) else(n,k)).lookup y=some .free)->(y,NameKind.free)∈l:=by
  intro l y
  induction l with
  |nil=>intro _ _ e;rcases e with e|e<;>cases e
  |cons p r ih=>
   intro h1 h2 e
   obtain⟨n,k⟩:=p
   have c1:=h1 (n,k) List.mem_cons_self
   rw[List.map_cons,List.lookup_cons] at e
   have hfst:(if(k==NameKind.free&&X.env.scope.kind==.function&&X.env.kindOf n==some .cell) then(n,NameKind.cell) else(n,k)).1=n:=by split<;>rfl
   by_cases ey:y=n
   ·subst ey
    simp only[hfst,beq_self_eq_true] at e
    by_cases hk:k=.free
    ·subst hk;exact List.mem_cons_self
    ·have hk':(k==NameKind.free)=false:=beq_eq_false_iff_ne.mpr hk
     simp only[hk',Bool.false_and,Bool.false_eq_true,if_false] at e
     rcases e with e|e
     ·cases e;exact absurd rfl c1
     ·cases e;exact absurd rfl hk
   ·have ey':(y==n)=false:=beq_eq_false_iff_ne.mpr ey
    simp only[hfst,ey'] at e
    exact List.mem_cons_of_mem _ (ih (fun p hp=>h1 p (List.mem_cons_of_mem _ hp)) (fun p hp=>h2 p (List.mem_cons_of_mem _ hp)) e)
 refine⟨fun y c e=>Na _ _ [] (fun p hp=>by cases hp) _ (Sz e),fun y e=>?_,fun i j x e1 e2=>?_,hl⟩
 ·have hm:=frees scope.names y hcell hfree e
  obtain⟨c,hc⟩:=hcl _ hm rfl
  obtain⟨d,hd⟩:=Re (Nb X.env.cells scope.names [] y c hm hc)
  exact⟨d,hd⟩
 ·obtain⟨a1,a2⟩:=hcap i j x e1 e2
  have a3:=hfree _ (Sz a2) rfl
  refine⟨a1,by rw[hsc];exact a3,?_⟩
  have rl:∀(l:List (Str×NameKind)),l.lookup x=some .free->(l.map fun(n,k)=>if(k==NameKind.free&&X.env.scope.kind==.function&&X.env.kindOf n==some .cell) then(n,NameKind.cell) else(n,k)).lookup x=some .cell:=by
   intro l
   induction l with
   |nil=>intro e;cases e
   |cons p r ih=>
    intro e
    obtain⟨n,k⟩:=p
    rw[List.map_cons,List.lookup_cons]
    rw[List.lookup_cons] at e
    have hfst:(if(k==NameKind.free&&X.env.scope.kind==.function&&X.env.kindOf n==some .cell) then(n,NameKind.cell) else(n,k)).1=n:=by split<;>rfl
    by_cases ex:x=n
    ·subst ex
     simp only[beq_self_eq_true] at e
     cases e
     have c3:X.env.kindOf x=some .cell:=by show X.env.scope.names.lookup x=_;rw[hsc];exact a3
     have c4:X.env.scope.kind=.function:=by rw[hsc];exact hkf
     simp only[hfst,beq_self_eq_true,c3,c4,Bool.and_true,if_true]
    ·have ex':(x==n)=false:=beq_eq_false_iff_ne.mpr ex
     simp only[ex'] at e
     simp only[hfst,ex']
     exact ih e
  exact rl _ a2
def Zl8 (sc names:List (Str×NameKind)):Bool:=names.all fun y=>!(decide (y.2=NameKind.free))||decide (sc.lookup y.1=some NameKind.cell)
def Rt {sc scope:Scope}(h:Zl8 sc.names scope.names=true):∀y∈scope.names,y.2=.free->sc.names.lookup y.1=some .cell:=fun y hy hf=>by
 have:=List.all_eq_true.mp h y hy
 rw[Bool.or_eq_true] at this
 rcases this with z|z
 ·rw[decide_eq_true hf] at z;cases z
 ·exact of_decide_eq_true z
def Zck (N:List Str)(names:List (Str×NameKind)):List Str->List Nat->Bool
 |x::xs,j::js=>decide (N[j]?=some x)&&decide (names.lookup x=some NameKind.free)&&Zck N names xs js
 |_,_=>true
theorem Cg {N:List Str}{names:List (Str×NameKind)}:∀{xs:List Str}{js:List Nat},Zck N names xs js=true->∀(i j:Nat) (x:Str),xs[i]?=some x->js[i]?=some j->N[j]?=some x/\names.lookup x=some .free
 |[],_,_,i,_,_,e,_=>by simp at e
 |_::_,[],_,i,_,_,_,e=>by simp at e
 |x::xs,j::js,h,0,j',x',e1,e2=>by
  unfold Zck at h
  rw[Bool.and_eq_true,Bool.and_eq_true] at h
  simp at e1 e2
  subst e1 e2
  exact⟨of_decide_eq_true h.1.1,of_decide_eq_true h.1.2⟩
 |x::xs,j::js,h,i+1,j',x',e1,e2=>by
  unfold Zck at h
  rw[Bool.and_eq_true] at h
  exact Cg h.2 i j' x' (by simpa using e1) (by simpa using e2)
def R6 {X:Cx}{N:List Str}{Nc:List Str}{n0:Nat}{caps:List Nat}{scope:Scope}(hN:X.N=N)(h:Zck N scope.names (Nc.drop n0) caps=true):
  ∀(i j:Nat) (x:Str),Nc[n0+i]?=some x->caps[i]?=some j->X.N[j]?=some x/\scope.names.lookup x=some .free:=fun i j x e1 e2=>by
 rw[hN]
 exact Cg h i j x (by rw[List.getElem?_drop];exact e1) e2
section
variable {X:Cx}{E:XK}{pos p p1 p2:Pos}{a e:Expr}{x:Str}
def Zcl (f:Zf->M (List D))(sd:Zf):M O:=(f sd).bind fun ds=>.ok (.rt (.ow ds))
def Zcm {f:Zf->M (List D)}(h:Zfs X E e f):N8 X E (.Return (some e) pos) (Zcl f):=by
 obtain⟨t,p,q⟩:=h
 refine⟨_,W3 p,fun H0 B Hf sd σ H D sr h=>?_⟩
 refine q H0 B Hf sd σ H _ sr (PoS.bindF sr h fun ds p xs Hf1 H1 _ g1 sr1 e1 e2 e3 e4 h1=>?_)
 exact h1 _ Hf1 H1 (Same.refl _) sr1.fin ⟨p,rfl,sr.all.free e1,e2,xs,e3,e4⟩
def El (i:Nat)(sd:Zf):M (List D):=match sd[i]? with
 |some (some (.ow ds))=>.ok ds
 |_=>.bad
def O4 (i:Nat) (hg:Gl X "list") (hm:X.mg "list"=none) (hv:bootBuiltins "list"=some (.type "list")) (hi:X.N[i]?=some x:=by rfl) (hvis:Rz X.env.scope x:=by trivial)
  (hd:(x==("__debug__":Str))=false:=by decide) (hcd:(x==("__classdict__":Str))=false:=by decide)
  (he:starEach [.Name x p1] X.env=(false,eval (.Name x p1) X.env)::starEach [] X.env:=by rfl) (hpl:(backTo pos (starEach ([]:List Expr) X.env)).any (·.1)=false:=by rfl):Zfs X E (.Call (.Name "list" p) [.Name x p1] [] pos) (El i):=by
 refine⟨_,Ls Go hg hm hv (Qh (Z9 hi hvis hd hcd) Xa he) (by decide) (by decide) he hpl,fun H0 B Hf sd σ H Q sr h=>?_⟩
 unfold El at h
 split at h
 ·rename_i ds ei
  obtain⟨q,z1,z2,z3,xs,z4,z5⟩:=sr.ow i _ ei rfl
  exact⟨_,z1,q,xs,rfl,.inl (SqL.of z4),fun l hl=>h l xs Hf _ ⟨Same.refl _,sr.sub.trans (Qa hl _),Qa hl _,fun _ _ e=>e⟩ hl (sr.sub.free hl) Zo z5⟩
 ·exact h.elim
def Zn7 (X:Cx)(E:XK)(f:Value->Sem Value)(g:D->M D):Prop:=
 ∃r,Zm6 X f r/\∀(Hf H:Hp) (x:V) (dx:D) (Q:VK),Same Hf H->Rep X.K Hf dx x->Po X.K E (rV X.K) Hf H (g dx) Q->r x H Q
def S0:D->M D
 |.int i=>.ok (.int (-i))
 |_=>.bad
def Pj:Zn7 X E (unaryOp .USub) S0:=by
 refine⟨_,Zbf,fun Hf H x dx Q e rx q=>?_⟩
 unfold S0 at q
 split at q
 ·exact⟨_,rep_int.mp rx,Po.ret e q (rep_int.mpr rfl)⟩
 ·exact q.elim
def F6 (g:D->M D)(f:Zf->M D)(sd:Zf):M D:=(f sd).bind g
def Ch {op:UnaryOp}{g:D->M D}{f:Zf->M D}(ho:Zn7 X E (unaryOp op) g)(h:Y0 X E a f):Y0 X E (.UnaryOp op a pos) (F6 g f):=by
 obtain⟨r,hr,qr⟩:=ho
 obtain⟨t,p,q⟩:=h
 refine⟨_,Zbe hr p,fun H0 B Hf sd σ H Q sr h=>?_⟩
 exact q H0 B Hf sd σ H _ sr (Po.bind h fun d v Hf1 H1 _ g1 rv h1=>qr Hf1 H1 v d Q g1.sub rv h1)
end
section
variable {prog:Program}{w:World}{A:Around}{E:Value->Shared->Prop}{s:Shared}
def Pk {sl:Addr}{t:Tok}{n:Nat}{Q:Int×Int×Nat->Shared->Prop}(hs:s.heap.IsSliceOf sl .none .none (.int (-1) t))(h:Q ((n:Int)-1,-1,n) s):wpAny (model prog w) A (Builtin.Slice.sliceApplied (.ref sl) (pure (n:Int))) Q E s:=by
 obtain⟨os,hos,hcs,hds⟩:=id hs
 unfold Builtin.Slice.sliceApplied Builtin.Slice.sliceFields
 refine wpAny_bind (wpAny_bind (wpAny_field hos hds (x:=.none) rfl (wpAny_bind (wpAny_field hos hds (x:=.none) rfl (wpAny_bind (wpAny_field hos hds (x:=.int (-1) t) rfl (wpAny_pure ?_)))))))
 refine wpAny_bind (slicePart_int ?_)
 show wpAny _ _ (if((-1:Int)==0)=true then _ else _) _ _ s
 rw[if_neg (by decide)]
 refine wpAny_bind (slicePart_none (wpAny_bind (slicePart_none (wpAny_bind (wpAny_pure ?_)))))
 show wpAny _ _ (match Builtin.Slice.sliceAdjust none none (-1) (n:Int) with|(lo,hi)=>pure (lo,(-1:Int),Builtin.Slice.slicePlaces lo hi (-1))) _ _ s
 have e1:Builtin.Slice.sliceAdjust none none (-1) (n:Int)=((n:Int)-1,-1):=by
  unfold Builtin.Slice.sliceAdjust
  simp
 have e2:Builtin.Slice.slicePlaces ((n:Int)-1) (-1) (-1)=n:=by
  unfold Builtin.Slice.slicePlaces
  simp
  split<;>lia
 rw[e1]
 show wpAny _ _ (pure ((n:Int)-1,(-1:Int),Builtin.Slice.slicePlaces ((n:Int)-1) (-1) (-1))) _ _ s
 rw[e2]
 exact wpAny_pure h
theorem Ci {α β:Type}{f g:α->Option β}:∀{l:List α},(∀a∈l,f a=g a)->l.filterMap f=l.filterMap g
 |[],_=>rfl
 |a::l,h=>by
  rw[List.filterMap_cons,List.filterMap_cons,h a List.mem_cons_self,Ci fun b hb=>h b (List.mem_cons_of_mem _ hb)]
def Zcn (xs:Array Value):((List.range xs.size).filterMap fun(m:Nat)=>xs[(((xs.size:Int)-1)+(m:Int)*(-1)).toNat]?).toArray=xs.toList.reverse.toArray:=by
 have h:=HT.pick_gen xs.toList.reverse.toArray 0 xs.size
 have e:(List.range xs.size).filterMap (fun(m:Nat)=>xs[(((xs.size:Int)-1)+(m:Int)*(-1)).toNat]?)=(List.range xs.size).filterMap (fun(m:Nat)=>xs.toList.reverse.toArray[(((0:Nat):Int)+(m:Int)*1).toNat]?):=by
  refine Ci fun m hm=>?_
  have hm:=List.mem_range.mp hm
  have e1:(((xs.size:Int)-1)+(m:Int)*(-1)).toNat=xs.size-1-m:=by lia
  have e2:(((0:Nat):Int)+(m:Int)*1).toNat=m:=by lia
  rw[e1,e2]
  simp only[List.getElem?_toArray]
  rw[List.getElem?_reverse (by simpa using hm)]
  simp
 rw[e,h]
 have hl:xs.toList.reverse.length=xs.size:=by simp
 show((xs.toList.reverse.drop 0).take xs.size).toArray=_
 rw[List.drop_zero,<-hl,List.take_length]
def Nd {t sl:Addr}{items:Array Value}{tk:Tok}{Q:Value->Shared->Prop}(ht:IsTup s.heap t items)(hs:s.heap.IsSliceOf sl .none .none (.int (-1) tk))
  (h:Q (.ref s.heap.objs.size) {s with heap:=s.heap.push {cls:=.type "tuple", data:=.seq items.toList.reverse.toArray}})
  (hsz:items.size<=sizeLine):wpAny (model prog w) A (getItem (.ref t) (.ref sl)) Q E s:=by
 have htake:sizeOk (.seq items.toList.reverse.toArray):=by
  show items.toList.reverse.toArray.size<=sizeLine
  simpa using hsz
 obtain⟨os,hos,hcs,hds⟩:=id hs
 have hTs:s.TypeIs (.ref sl) "slice":=⟨os,hos,hcs⟩
 unfold getItem
 try with_reducible refine wpAny_holding ?_
 first|refine wpAny_bind (wpAny_pure ?_)|skip
 refine wpAny_bind (wpAny_sequenceKey ht.typeIs (by decide) ?_)
 refine wpAny_bind (wpAny_callSpecial?_slot (name:=Str.ofString "__getitem__") ht.typeIs PyProof.Rows.slot_tuple_getitem
  (wpAny_call_entry PyProof.Rows.slot_tuple_getitem ht.typeIs entry_tuple_getitem ?_ (args_tuple_getitem _ _)))
 show wpAny _ _ (Builtin.Tuple.tupleItemsOf (.ref t)>>=_) _ _ s
 refine wpAny_bind (tupleItemsOf_ ht ?_)
 refine wpAny_bind (wpAny_typeOf hTs ?_)
 rw[if_pos (by decide)]
 refine wpAny_bind (Pk hs ?_)
 show wpAny _ _ (if(((items.size:Int)-1)==0&&(-1:Int)==1&&items.size==items.size)=true then _ else _) _ _ s
 rw[if_neg (by simp),Zcn]
 first
  |exact wpAny_bind (m:=Builtin.Tuple.tupleExact _) (wpAny_newObj_type (wpAny_pure ⟨_,rfl,wpAny_pure h⟩) htake)
  |exact wpAny_bind (m:=Builtin.Tuple.tupleExact _) (wpAny_newObj_type (wpAny_bind (wpAny_pure (wpAny_pure ⟨_,rfl,wpAny_pure h⟩))) htake)
  |exact wpAny_bind (wpAny_bind (m:=Builtin.Tuple.tupleExact _) (wpAny_newObj_type (wpAny_pure (wpAny_pure ⟨_,rfl,wpAny_pure h⟩)) htake))
  |exact wpAny_bind (wpAny_bind (m:=Builtin.Tuple.tupleExact _) (wpAny_newObj_type (wpAny_pure ⟨_,rfl,wpAny_pure h⟩) htake))
end
theorem Vals.rev:∀{xs:List V}{us:List Value},Vals xs us->Vals xs.reverse us.reverse
 |_,_,.nil=>.nil
 |_,_,.cons r t=>by
  rw[List.reverse_cons,List.reverse_cons]
  exact(Vals.rev t).append (.cons r .nil)
theorem Reps.rev {K:PySem.W.Frag}{H:Hp}:∀{ds:List D}{xs:List V},Reps K H ds xs->Reps K H ds.reverse xs.reverse
 |[],xs,h=>by rw[reps_nil.mp h];exact Reps.nil
 |d::ds,xs,h=>by
  obtain⟨x,r,rfl,h1,h2⟩:=reps_cons.mp h
  rw[List.reverse_cons,List.reverse_cons]
  exact(Reps.rev h2).append (Reps.cons h1 Reps.nil)
section
variable {X:Cx}{E:XK}{pos p2 p3 p4:Pos}{e:Expr}
def Zl9 (K:PySem.W.Frag)(te:TE):TE:=fun σ H Q=>te σ H fun x H1=>∃a xs,x=.ref a/\SqT K H1 a xs/\∀p,H1 p=none->Q (.ref p) (upd H1 p (.tup xs.reverse))
def Zfy {te:TE}{j}(he:PE X e te):PE X (.Subscript e (.Slice none none (some (.UnaryOp .USub (.Constant (.int 1) j p3) p4)) p2) pos) (Zl9 X.K te):=by
 intro pins s σ H Q I h
 refine Subscript_ (Yj (he pins s σ H _ I h) fun v s1 ⟨x,H1,I1,r1,q1⟩=>?_)
 refine wpAny_Slice ?_
 rw[evalPart_none]
 refine wpAny_pure (wpAny_pure ?_)
 rw[evalPart_some]
 refine Yj (Zbe (Zbf (X:=X)) (Zba (X:=X)) pins s1 σ H1 (fun y H2=>y=.int (-1)/\H2=H1) I1 ⟨1,rfl,rfl,rfl⟩) fun vst s2 ⟨y,H2,I2,ry,ey,eH⟩=>?_
 subst ey eH
 obtain⟨tk,rfl⟩:=(show ∃t,vst=Value.int (-1) t from ry)
 have I4:Inv X pins σ H2 {s2 with heap:=s2.heap.push {cls:=.type "slice", data:=.fields #[.none,.none,.int (-1) tk]}}:=I2.kept (t':=s2.toks) fun b ob q=>Heap.get?_push_of_some _ q
 obtain⟨a,xs,rfl,hx,q⟩:=q1
 cases r1
 obtain⟨its,r,ht,hz⟩:=I4.tuple hx
 have hlen:its.toArray.size=xs.length:=by rw[List.size_toArray];exact r.length.symm
 show wpAny (model X.prog X.w) X.A (subscriptTail e _ _ (.ref s2.heap.objs.size)) (EP X pins σ Q) X.xe {s2 with heap:=s2.heap.push {cls:=.type "slice", data:=.fields #[.none,.none,.int (-1) tk]}}
 refine tail_any (ops:=[.ref a,.ref s2.heap.objs.size]) ht.typeIs PyProof.Rows.slot_tuple_getitem.lookup (Nd ht (Heap.IsSliceOf.new ..) ?_ (by rw[hlen];exact hz)) (by with_unfolding_all rfl)
 refine⟨.ref _,_,I4.laid (t':=s2.toks) (o:=.tup xs.reverse) (fun b ob q=>Heap.get?_push_of_some _ q) (Nat.le_refl _) ?_,rfl,q _ (I4.hok.fresh (Nat.le_refl _))⟩
 exact⟨by rw[List.length_reverse];exact hz,_,Vals.rev r,IsTup.new _ _⟩
def Zco (f:Zf->M D)(sd:Zf):M D:=(f sd).bind fun d=>match d with
 |.tup ds=>.ok (.tup ds.reverse)
 |_=>.bad
def Zjm {f:Zf->M D}{j}(h:Y0 X E e f):Y0 X E (.Subscript e (.Slice none none (some (.UnaryOp .USub (.Constant (.int 1) j p3) p4)) p2) pos) (Zco f):=by
 obtain⟨t,p,q⟩:=h
 refine⟨_,Zfy p,fun H0 B Hf sd σ H Q sr h=>?_⟩
 refine q H0 B Hf sd σ H _ sr (Po.bind h fun d v Hf1 H1 _ g1 rv h1=>?_)
 split at h1
 ·obtain⟨a,xs,rfl,ha,hr⟩:=Qc rv
  exact⟨a,xs,rfl,Same.seqT g1.sub ha,fun p hp=>h1 _ _ _ (Gr.alloc g1.sub hp _) (Gr.tup g1.sub hp (Reps.rev hr))⟩
 ·exact h1.elim
end
section
variable {X:Cx}{E:XK}{pos:Pos}{a b c:Expr}
def Wb (g g':D->D->M D)(fa fb fc:Zf->M D)(sd:Zf):M D:=(fa sd).bind fun x=>(fb sd).bind fun y=>(g x y).bind fun r=>(asB r).bind fun k=>if k then((fc sd).bind fun z=>g' y z) else .ok (.bl false)
def Em {fa fb fc:Zf->M D}{g g':D->D->M D}{ta tb tc:TE}{r r':R2}{H0:Hp}{B:Addr->Prop}{Hf:Hp}{sd:Zf}{σ:L2.St}{H:Hp}{Q:VK}(qa:∀(H0:Hp) (B:Addr->Prop) (Hf:Hp) (sd:Zf) (σ:L2.St) (H:Hp) (Q:VK),SR X.K H0 B Hf sd σ H->Po X.K E (rV X.K) Hf H (fa sd) Q->ta σ H Q)(qb:∀(H0:Hp) (B:Addr->Prop) (Hf:Hp) (sd:Zf) (σ:L2.St) (H:Hp) (Q:VK),SR X.K H0 B Hf sd σ H->Po X.K E (rV X.K) Hf H (fb sd) Q->tb σ H Q)(qc:∀(H0:Hp) (B:Addr->Prop) (Hf:Hp) (sd:Zf) (σ:L2.St) (H:Hp) (Q:VK),SR X.K H0 B Hf sd σ H->Po X.K E (rV X.K) Hf H (fc sd) Q->tc σ H Q)(qr:∀(Hf H:Hp) (x y:V) (dx dy:D) (Q:VK),Same Hf H->Rep X.K Hf dx x->Rep X.K Hf dy y->Po X.K E (rV X.K) Hf H (g dx dy) Q->r x y H Q)(qr':∀(Hf H:Hp) (x y:V) (dx dy:D) (Q:VK),Same Hf H->Rep X.K Hf dx x->Rep X.K Hf dy y->Po X.K E (rV X.K) Hf H (g' dx dy) Q->r' x y H Q)(sr:SR X.K H0 B Hf sd σ H)(h:Po X.K E (rV X.K) Hf H (Wb g g' fa fb fc sd) Q):Zbh r r' ta tb tc σ H Q:=by
 refine qa H0 B Hf sd σ H _ sr (Po.bind h fun dx x Hf1 H1 _ g1 rx h1=>?_)
 have sr1:=sr.gr g1
 refine qb H0 B Hf1 sd σ H1 _ sr1 (Po.bind h1 fun dy y Hf2 H2 _ g2 ry h2=>?_)
 have sr2:=sr1.gr g2
 refine qr Hf2 H2 x y dx dy _ g2.sub (Rep.mono g2.fz rx) ry (Po.bind h2 fun dz z Hf3 H3 _ g3 rz h3=>?_)
 have sr3:=sr2.gr g3
 obtain⟨k,rfl,h4⟩:=Po.asB h3
 refine⟨k,rep_bl.mp rz,?_⟩
 cases k with
 |true=>
  rw[if_pos rfl] at h4 ⊢
  exact qc H0 B Hf3 sd σ H3 _ sr3 (Po.bind h4 fun dw w' Hf4 H4 _ g4 rw' h5=>qr' Hf4 H4 y w' dy dw Q g4.sub (Rep.mono g4.fz (Rep.mono g3.fz ry)) rw' h5)
 |false=>
  rw[if_neg Bool.false_ne_true] at h4 ⊢
  exact Po.ret (R:=rV X.K) g3.sub h4 (rep_bl.mpr rfl)
def L8 {op op':CmpOp}{g g':D->D->M D}{fa fb fc:Zf->M D}(ho:N9 X E (compareOp op) g)(ho':N9 X E (compareOp op') g')(ha:Y0 X E a fa)(hb:Y0 X E b fb)(hc:Y0 X E c fc)(hm:lastMarks [op,op'] [b,c]=false:=by with_unfolding_all rfl):Lz X E (.Compare a [op,op'] [b,c] pos) (DL.tB (Wb g g' fa fb fc)):=by
 obtain⟨r,hr,qr⟩:=ho
 obtain⟨r',hr',qr'⟩:=ho'
 obtain⟨ta,pa,qa⟩:=ha
 obtain⟨tb,pb,qb⟩:=hb
 obtain⟨tc,pc,qc⟩:=hc
 refine⟨_,Zbi hr hr' pa pb pc hm,fun H0 B Hf sd σ H Q sr h=>?_⟩
 refine Em qa qb qc qr qr' sr (Po.bind h fun d v Hf1 H1 _ g1 rv h1=>?_)
 unfold DL.asB at h1
 split at h1
 ·exact⟨_,rep_bl.mp rv,Po.ret (R:=rQ) g1.sub h1 rfl⟩
 ·exact h1.elim
def R7 (fs:Zf->M (List D))(sd:Zf):M (List D):=(fs sd).bind fun ds=>match ds with
 |[.int i,.int j]=>if(-1000000<=i/\i<=1000000)/\-1000000<=j/\j<=1000000 then .ok (Uc i (j-i).toNat) else .bad
 |_=>.bad
def En {tg:Expr}{p:Pos}{fs:Zf->M (List D)} (hg:Gl X "range") (hm:X.mg "range"=none) (h:T3 X E [a,b] fs) (hs:starEach [a,b] X.env=[(false,eval a X.env),(false,eval b X.env)]:=by rfl) (hs2:starEach [b] X.env=[(false,eval b X.env)]:=by rfl):
  Zhr X E tg (.Call (.Name "range" p) [a,b] [] pos) (R7 fs):=by
 obtain⟨t,pt,q⟩:=h
 refine⟨_,Oh hg hm pt hs hs2,fun H0 B Hf sd σ H R sr h=>?_⟩
 refine q H0 B Hf sd σ H _ sr (Po.bind h fun ds vs Hf1 H1 _ g1 rs h1=>?_)
 split at h1
 ·split at h1
  ·rename_i hj
   obtain⟨v,w',rfl,rv,rw'⟩:=L0 rs
   rw[rep_int.mp rv,rep_int.mp rw']
   exact⟨_,_,rfl,⟨by lia,by lia,by lia,by lia⟩,Po.ret (R:=Rs X.K) g1.sub h1 (Zb8 _ _)⟩
  ·exact h1.elim
 ·exact h1.elim
end
end DL
namespace DL
open PySem PySem.Spec PyProof.Rows L2
theorem Zz {X:Cx}{E:XK}{pos p:Pos}{a:Expr}{i:Int}{j}{fa:Zf->M D}(ha:Y0 X E a fa):Y0 X E (.Subscript a (.Constant (.int i) j p) pos) (Zn Jg fa (eC (.int i))):=Ji ha Zg (fun _ _=>rfl)
end DL
local macro_rules
 |`(↑$x:num)=>`(DL.eC (.int $x))
 |`(↑$x:str)=>`(DL.eC (.str (PySem.Str.ofString $x)))
 |`($x:num[$y:num]!)=>`(DL.Zn DL.Jg (DL.Zd $x) (DL.eC (.int $y)))
local macro_rules
 |`(tactic|trivial)=>`(tactic|exact fun _ _ _ _ _ _ us hl=>match us,hl with | [_],_=>rfl)
local macro_rules
 |`(tactic|trivial)=>`(tactic|exact fun _ _ _ _ _ _ us hl=>match us,hl with | [_,_],_=>rfl)
local macro_rules
 |`(tactic|trivial)=>`(tactic|exact fun _ _ _ _ _ _ us hl=>match us,hl with | [_,_,_],_=>rfl)
local macro_rules
 |`(tactic|trivial)=>`(tactic|exact fun _ _ _ _ _ _ us hl=>match us,hl with | [_,_,_,_],_=>rfl)
local macro_rules
 |`(tactic|trivial)=>`(tactic|exact fun _ _ _ _ _ _ us hl=>match us,hl with | [_,_,_,_,_],_=>rfl)
local macro_rules
 |`(tactic|trivial)=>`(tactic|exact fun _ _ _ _ _ _ us hl=>match us,hl with | [_,_,_,_,_,_],_=>rfl)
namespace DL
open PySem PySem.Spec PySem.Calls PySem.Builtin PySem.Builtin.ObjectAttr PyProof.Rows L2 PySem.W
def SR.ofS {K:Frag}{Hf H:Hp}{sd:Zf}{σ:L2.St}(e:Same Hf H)(hl:sd.length=σ.length)(hS:∀(i:Nat) (t:S),sd[i]?=some (some t)->t.own=false/\∃v,σ[i]?=some (some v)/\RepS K Hf t v):
  SR K H (fun a=>Lv H a/\Hf a=none) Hf sd σ H:=
 ⟨e,Same.refl _,fun _ h=>h.2,fun _ h=>h.1,hl,fun i t h _=>(hS i t h).2,fun i t h ho=>(by rw[(hS i t h).1] at ho;cases ho),fun i _ t _ _ _ h ho _ _ _ _=>(by rw[(hS i t h).1] at ho;cases ho)⟩
end DL
namespace DL
open PySem PySem.Spec PyProof.Rows L2
def ItK (t:Bool)(h:Heap)(i l:Addr)(k:Nat):Prop:=∃o,h.get? i=some o/\o.cls=.type (if t then "tuple_iterator" else "list_iterator")/\o.data=.fields #[.ref l,.int k 0]
def SqK (t:Bool)(h:Heap)(l:Addr)(xs:Array Value):Prop:=∃o,h.get? l=some o/\o.cls=.type (if t then "tuple" else "list")/\∃n,o.data=.seq xs n
def ItK.at {t:Bool}{h h':Heap}{i l:Addr}{k:Nat}(x:ItK t h i l k)(q:∀o,h.get? i=some o->h'.get? i=some o):ItK t h' i l k:=let ⟨o,e,r⟩:=x;⟨o,q o e,r⟩
def SqK.at {t:Bool}{h h':Heap}{l:Addr}{xs:Array Value}(x:SqK t h l xs)(q:∀o,h.get? l=some o->h'.get? l=some o):SqK t h' l xs:=let ⟨o,e,r⟩:=x;⟨o,q o e,r⟩
section
variable {prog:Program}{w:World}{A:Around}{E:Value->Shared->Prop}{s:Shared}
def W6 {t:Bool}{it l:Addr}{i:Nat}{xs:Array Value}{x:Value}{Q:Value->Shared->Prop}(hi:ItK t s.heap it l i)(hl:SqK t s.heap l xs)(hx:xs[i]?=some x)(hQ:∀h',ItK t h' it l (i+1)->Heap.SameBut it s.heap h'->Q x {s with heap:=h'}):wpAny (model prog w) A (Builtin.SmallTypes.nextOf (.ref it)) Q E s:=by
 cases t with
 |false=>exact wpAny_nextOf_list_item (show s.heap.IsListIter it l i from hi) (show s.heap.IsList l xs from hl) hx hQ
 |true=>
  obtain⟨o,ho,hc,hd⟩:=id hi
  obtain⟨ol,hol,_,nl,hdl⟩:=hl
  have ty:s.TypeIs (.ref it) "tuple_iterator":=⟨o,ho,hc⟩
  unfold Builtin.SmallTypes.nextOf
  refine wpAny_bind (wpAny_callSpecial?_slot (name:=Str.ofString "__next__") ty PyProof.Rows.slot_tupleiter_next (wpAny_call_entry PyProof.Rows.slot_tupleiter_next ty PyProof.Rows.entry_tupleiter_next ?_ (PyProof.Rows.args_tupleiter_next _)))
  refine wpAny_bind (m:=field (.ref it) 0) (wpAny_field ho hd (x:=.ref l) rfl ?_)
  dsimp only
  rw[if_neg (fun z:(Value.ref l==Value.none)=true=>Bool.false_ne_true z)]
  refine wpAny_bind (m:=field (.ref it) 1) (wpAny_field ho hd (x:=.int i 0) rfl (wpAny_bind (m:=seqItems? (.ref l)) (wpAny_seqItems hol hdl ?_)))
  simp only[Int.toNat_natCast,hx]
  refine wpAny_bind (wpAny_setField ho hd (by simp) (wpAny_pure ⟨x,rfl,wpAny_pure (hQ _ ⟨_,Heap.get?_update_self _ ho (Obj.isFreed_of_fields (Obj.data_mapFields hd _)),(Obj.cls_mapFields ..).trans hc,?_⟩ (Heap.SameBut.update ..))⟩))
  rw[Obj.data_mapFields hd];simp[rawInt]
def L9 {t:Bool}{it l:Addr}{i:Nat}{xs:Array Value}{Q:Value->Shared->Prop}(hh:A.handled=none)(hi:ItK t s.heap it l i)(hl:SqK t s.heap l xs)(hx:xs[i]?=none)
  (hE:∀h' e,Heap.ExtBut it s.heap h'->(∃o,h'.get? e=some o/\o.cls=.type "StopIteration")->E (.ref e) {s with heap:=h'}):wpAny (model prog w) A (Builtin.SmallTypes.nextOf (.ref it)) Q E s:=by
 cases t with
 |false=>exact wpAny_nextOf_list_end hh (show s.heap.IsListIter it l i from hi) (show s.heap.IsList l xs from hl) hx hE
 |true=>
  obtain⟨o,ho,hc,hd⟩:=id hi
  obtain⟨ol,hol,_,nl,hdl⟩:=hl
  have ty:s.TypeIs (.ref it) "tuple_iterator":=⟨o,ho,hc⟩
  unfold Builtin.SmallTypes.nextOf
  refine wpAny_bind (wpAny_callSpecial?_slot (name:=Str.ofString "__next__") ty PyProof.Rows.slot_tupleiter_next (wpAny_call_entry PyProof.Rows.slot_tupleiter_next ty PyProof.Rows.entry_tupleiter_next ?_ (PyProof.Rows.args_tupleiter_next _)))
  refine wpAny_bind (m:=field (.ref it) 0) (wpAny_field ho hd (x:=.ref l) rfl ?_)
  dsimp only
  rw[if_neg (fun z:(Value.ref l==Value.none)=true=>Bool.false_ne_true z)]
  refine wpAny_bind (m:=field (.ref it) 1) (wpAny_field ho hd (x:=.int i 0) rfl (wpAny_bind (m:=seqItems? (.ref l)) (wpAny_seqItems hol hdl ?_)))
  simp only[Int.toNat_natCast,hx]
  refine wpAny_bind (wpAny_rule (wpAny_bind (wpAny_setField ho hd (by simp) (wpAny_bind (m:=newExc (.type "StopIteration") []) ?_))))
  simp only[newExc,newTuple]
  refine wpAny_bind (wpAny_newObj_type (wpAny_bind (m:=firstArgMember _ _) (wpAny_of_eq (a:=Value.none) (by first|rfl|(simp only[firstArgMember];rfl)) (wpAny_newObj_type ?_ (by size_fits)))) (by size_fits))
  simp only[raiseNew]
  refine wpAny_bind (wpAny_handled ?_)
  first|rw[show A.in1.handled=none from hh]|rw[hh]
  exact wpAny_bind (wpAny_pure (wpAny_throw (hE _ _ (((Heap.SameBut.update ..).extBut.push _).push _) ⟨_,Heap.get?_push_size _ rfl,rfl⟩)))
def Zhs {t:Bool}{l:Addr}{xs:Array Value}{Q:Value->Shared->Prop}(hl:SqK t s.heap l xs)
  (hQ:Q (.ref s.heap.objs.size) {s with heap:=s.heap.push {cls:=.type (if t then "tuple_iterator" else "list_iterator"),data:=.fields #[.ref l,.int 0 0]}}):wpAny (model prog w) A (pyIter (.ref l)) Q E s:=by
 cases t with
 |false=>exact wpAny_pyIter_list (show s.heap.IsList l xs from hl) hQ
 |true=>exact PyProof.Rows.iter_tuple (show IsTup s.heap l xs from hl) hQ
def O5 {t1 t2:Bool}{z TI TO i1 i2 l1 l2:Addr}{k1 k2:Nat}{xs ys:Array Value}{x y a b:Value}{Q:Value->Shared->Prop}(D:ZipApart z TI TO i1 i2 l1 l2)(yz:IsZip s.heap z TI TO .none)(yI:IsPair s.heap TI (.ref i1) (.ref i2))(yO:IsPair s.heap TO a b)(y1:ItK t1 s.heap i1 l1 k1)(y2:ItK t2 s.heap i2 l2 k2)(m1:SqK t1 s.heap l1 xs)(m2:SqK t2 s.heap l2 ys)(ex:xs[k1]?=some x)(ey:ys[k2]?=some y)(hQ:∀h',IsZip h' z TI TO (rawInt s.heap.objs.size)->IsPair h' TO x y->ItK t1 h' i1 l1 (k1+1)->ItK t2 h' i2 l2 (k2+1)->IsPair h' s.heap.objs.size x y->h'.objs.size=s.heap.objs.size+1->(∀c o,c≠z->c≠TO->c≠i1->c≠i2->s.heap.get? c=some o->h'.get? c=some o)->Q (.ref s.heap.objs.size) {s with heap:=h'}):
  wpAny (model prog w) A (Builtin.«zip.__next__» ⟨[.ref z],[]⟩) (fun fin s'=>∃v,fin=.done (.ret v)/\Q v s') E s:=by
 refine wpAny_bind (m:=field (.ref z) 2) (wpAny_field yz rfl (x:=.bool false) rfl (wpAny_bind (m:=field (.ref z) 3) (wpAny_field yz rfl (x:=.ref TI) rfl (wpAny_bind (wpAny_seqItems yI rfl ?_)))))
 refine wpAny_bind (m:=Builtin.SmallTypes.ownedTupleIsFree (.ref z)) ?_
 unfold Builtin.SmallTypes.ownedTupleIsFree
 refine wpAny_bind (wpAny_field yz rfl (x:=.none) rfl (wpAny_pure ?_));simp only[if_true]
 refine wpAny_bind (wpAny_rule (wpAny_bind (wpAny_field yz rfl (x:=.ref TO) rfl (wpAny_bind (wpAny_setField_rec yz (by simp) fun h1 z1 e1=>wpAny_bind ?_)))))
 have z1:IsZip h1 z TI TO .ellipsis:=z1
 simp only[List.zipIdx_cons,List.zipIdx_nil,List.forIn_cons,List.forIn_nil]
 refine wpAny_bind (wpAny_bind (wpAny_onRaise (wpAny_bind (m:=Builtin.SmallTypes.nextOf (.ref i1)) (W6 (s:={s with heap:=h1}) (y1.at fun o q=>e1.extBut _ _ D.i1z q) (m1.at fun o q=>e1.extBut _ _ D.l1z q) ex fun h2 n1 e2=>wpAny_pure ?_))))
 have o2:IsPair h2 TO a b:=e2.extBut _ _ D.TOi1 (e1.extBut _ _ D.TOz yO)
 refine wpAny_bind (wpAny_seqItems o2 rfl (wpAny_bind (wpAny_updateSeq_pair o2 fun h3 o3 e3=>wpAny_bind (wpAny_letGo (wpAny_pure ?_)))))
 have o3:IsPair h3 TO x b:=o3
 refine wpAny_bind (wpAny_bind (wpAny_onRaise (wpAny_bind (m:=Builtin.SmallTypes.nextOf (.ref i2)) (W6 (s:={s with heap:=h3}) (y2.at fun o q=>e3.extBut _ _ D.TOi2.symm (e2.extBut _ _ D.i12.symm (e1.extBut _ _ D.i2z q))) (m2.at fun o q=>e3.extBut _ _ D.l2TO (e2.extBut _ _ D.l2i1 (e1.extBut _ _ D.l2z q))) ey fun h4 n2 e4=>wpAny_pure ?_))))
 have o4:IsPair h4 TO x b:=e4.extBut _ _ D.TOi2 o3
 refine wpAny_bind (wpAny_seqItems o4 rfl (wpAny_bind (wpAny_updateSeq_pair o4 fun h5 o5 e5=>wpAny_bind (wpAny_letGo (wpAny_pure (wpAny_pure ?_))))))
 have o5:IsPair h5 TO x y:=o5
 refine wpAny_bind (wpAny_seqItems o5 rfl (wpAny_bind (wpAny_newTuple ?_)))
 have sz:h5.objs.size=s.heap.objs.size:=by rw[e5.1,e4.1,e3.1,e2.1,e1.1]
 have z5:IsZip h5 z TI TO .ellipsis:=e5.extBut _ _ D.TOz.symm (e4.extBut _ _ D.i2z.symm (e3.extBut _ _ D.TOz.symm (e2.extBut _ _ D.i1z.symm z1)))
 have kk:∀c o,c≠z->c≠TO->c≠i1->c≠i2->s.heap.get? c=some o->h5.get? c=some o:=fun c o c1 c2 c3 c4 q=>e5.extBut _ _ c2 (e4.extBut _ _ c4 (e3.extBut _ _ c2 (e2.extBut _ _ c3 (e1.extBut _ _ c1 q))))
 have f1:ItK t1 h5 i1 l1 (k1+1):=n1.at fun o q=>e5.extBut _ _ D.TOi1.symm (e4.extBut _ _ D.i12 (e3.extBut _ _ D.TOi1.symm q))
 have f2:ItK t2 h5 i2 l2 (k2+1):=n2.at fun o q=>e5.extBut _ _ D.TOi2.symm q
 have zl:z<h5.objs.size:=Heap.lt_size z5
 refine wpAny_bind (m:=Builtin.SmallTypes.ownedTupleHandOut (.ref z) (.ref h5.objs.size)) ?_
 unfold Builtin.SmallTypes.ownedTupleHandOut
 have z6:IsZip (h5.push {cls:=.type "tuple", data:=.seq #[x,y]}) z TI TO .ellipsis:=Heap.get?_push_of_some _ z5
 refine wpAny_bind (wpAny_setField_rec z6 (by simp) fun h7 z7 e7=>?_)
 have z7:IsZip h7 z TI TO (rawInt h5.objs.size):=z7
 refine wpAny_setField_rec z7 (by simp) fun h8 z8 e8=>?_
 have z8:IsZip h8 z TI TO (rawInt h5.objs.size):=z8
 have up:∀c o,c≠z->h5.get? c=some o->h8.get? c=some o:=fun c o c1 q=>e8.extBut _ _ c1 (e7.extBut _ _ c1 (Heap.get?_push_of_some _ q))
 have nz:h5.objs.size≠z:=Nat.ne_of_gt zl
 have T8:IsPair h8 h5.objs.size x y:=e8.extBut _ _ nz (e7.extBut _ _ nz (Heap.get?_push_size _ rfl))
 have s8:h8.objs.size=h5.objs.size+1:=by rw[e8.1,e7.1,Heap.size_push]
 refine wpAny_pure ⟨_,rfl,?_⟩
 rw[sz] at z8 T8 s8
 have fin:=hQ h8 z8 (up _ _ D.TOz o5) (f1.at fun o q=>up _ o D.i1z q) (f2.at fun o q=>up _ o D.i2z q) T8 s8 fun c o c1 c2 c3 c4 q=>up c o c1 (kk c o c1 c2 c3 c4 q)
 rw[<-sz] at fin
 exact fin
def Zcp {t1 t2:Bool}{z TI TO i1 i2 l1 l2:Addr}{k1 k2:Nat}{xs ys:Array Value}{a b:Value}{Q:Fin->Shared->Prop}(hh:A.handled=none)(D:ZipApart z TI TO i1 i2 l1 l2)(yz:IsZip s.heap z TI TO .none)(yI:IsPair s.heap TI (.ref i1) (.ref i2))(yO:IsPair s.heap TO a b)(y1:ItK t1 s.heap i1 l1 k1)(y2:ItK t2 s.heap i2 l2 k2)(m1:SqK t1 s.heap l1 xs)(m2:SqK t2 s.heap l2 ys)(hend:xs[k1]?=none\/ys[k2]?=none)
  (hE:∀h' e,(∀c o,c≠z->c≠TO->c≠i1->c≠i2->s.heap.get? c=some o->h'.get? c=some o)->(∃o,h'.get? e=some o/\o.cls=.type "StopIteration")->E (.ref e) {s with heap:=h'}):
  wpAny (model prog w) A (Builtin.«zip.__next__» ⟨[.ref z],[]⟩) Q E s:=by
 refine wpAny_bind (m:=field (.ref z) 2) (wpAny_field yz rfl (x:=.bool false) rfl (wpAny_bind (m:=field (.ref z) 3) (wpAny_field yz rfl (x:=.ref TI) rfl (wpAny_bind (wpAny_seqItems yI rfl ?_)))))
 refine wpAny_bind (m:=Builtin.SmallTypes.ownedTupleIsFree (.ref z)) ?_
 unfold Builtin.SmallTypes.ownedTupleIsFree
 refine wpAny_bind (wpAny_field yz rfl (x:=.none) rfl (wpAny_pure ?_));simp only[if_true]
 refine wpAny_bind (wpAny_rule (wpAny_bind (wpAny_field yz rfl (x:=.ref TO) rfl (wpAny_bind (wpAny_setField_rec yz (by simp) fun h1 z1 e1=>wpAny_bind ?_)))))
 have z1:IsZip h1 z TI TO .ellipsis:=z1
 simp only[List.zipIdx_cons,List.zipIdx_nil,List.forIn_cons,List.forIn_nil]
 refine wpAny_bind (wpAny_bind (wpAny_onRaise (wpAny_bind (m:=Builtin.SmallTypes.nextOf (.ref i1)) ?_)))
 have u1:=y1.at (h':=h1) fun o q=>e1.extBut _ _ D.i1z q
 have v1:=m1.at (h':=h1) fun o q=>e1.extBut _ _ D.l1z q
 cases hx:xs[k1]? with
 |none=>
  refine L9 (s:={s with heap:=h1}) hh u1 v1 hx fun h2 e e2 he=>?_
  obtain⟨oe,q1,q2⟩:=he
  have z2:IsZip h2 z TI TO .ellipsis:=e2 _ _ D.i1z.symm z1
  have nz:e≠z:=fun r=>by subst r;rw[z2] at q1;cases q1;simp at q2
  exact wpAny_setField_rec z2 (by simp) fun h3 _ e3=>hE h3 e (fun c o c1 _ c3 _ r=>e3.extBut _ _ c1 (e2 _ _ c3 (e1.extBut _ _ c1 r))) ⟨oe,e3.extBut _ _ nz q1,q2⟩
 |some x=>
  have hy:ys[k2]?=none:=by
   rcases hend with q|q
   ·rw[hx] at q;cases q
   ·exact q
  refine W6 (s:={s with heap:=h1}) u1 v1 hx fun h2 n1 e2=>wpAny_pure ?_
  have o2:IsPair h2 TO a b:=e2.extBut _ _ D.TOi1 (e1.extBut _ _ D.TOz yO)
  refine wpAny_bind (wpAny_seqItems o2 rfl (wpAny_bind (wpAny_updateSeq_pair o2 fun h3 o3 e3=>wpAny_bind (wpAny_letGo (wpAny_pure ?_)))))
  refine wpAny_bind (wpAny_bind (wpAny_onRaise (wpAny_bind (m:=Builtin.SmallTypes.nextOf (.ref i2)) (L9 (s:={s with heap:=h3}) hh (y2.at fun o q=>e3.extBut _ _ D.TOi2.symm (e2.extBut _ _ D.i12.symm (e1.extBut _ _ D.i2z q))) (m2.at fun o q=>e3.extBut _ _ D.l2TO (e2.extBut _ _ D.l2i1 (e1.extBut _ _ D.l2z q))) hy fun h4 e e4 he=>?_))))
  obtain⟨oe,q1,q2⟩:=he
  have z4:IsZip h4 z TI TO .ellipsis:=e4 _ _ D.i2z.symm (e3.extBut _ _ D.TOz.symm (e2.extBut _ _ D.i1z.symm z1))
  have nz:e≠z:=fun r=>by subst r;rw[z4] at q1;cases q1;simp at q2
  exact wpAny_setField_rec z4 (by simp) fun h5 _ e5=>hE h5 e (fun c o c1 c2 c3 c4 r=>e5.extBut _ _ c1 (e4 _ _ c4 (e3.extBut _ _ c2 (e2.extBut _ _ c3 (e1.extBut _ _ c1 r))))) ⟨oe,e5.extBut _ _ nz q1,q2⟩
def Eo {t1 t2:Bool}{z TI TO i1 i2 l1 l2:Addr}{k1 k2:Nat}{xs ys:Array Value}{x y a b:Value}{Q:Option Value->Shared->Prop}(D:ZipApart z TI TO i1 i2 l1 l2)(yz:IsZip s.heap z TI TO .none)(yI:IsPair s.heap TI (.ref i1) (.ref i2))(yO:IsPair s.heap TO a b)(y1:ItK t1 s.heap i1 l1 k1)(y2:ItK t2 s.heap i2 l2 k2)(m1:SqK t1 s.heap l1 xs)(m2:SqK t2 s.heap l2 ys)(ex:xs[k1]?=some x)(ey:ys[k2]?=some y)(hQ:∀h',IsZip h' z TI TO (rawInt s.heap.objs.size)->IsPair h' TO x y->ItK t1 h' i1 l1 (k1+1)->ItK t2 h' i2 l2 (k2+1)->IsPair h' s.heap.objs.size x y->h'.objs.size=s.heap.objs.size+1->(∀c o,c≠z->c≠TO->c≠i1->c≠i2->s.heap.get? c=some o->h'.get? c=some o)->Q (some (.ref s.heap.objs.size)) {s with heap:=h'}):
  wpAny (model prog w) A (pyNext (.ref z)) Q E s:=by
 have ty:s.TypeIs (.ref z) "zip":=⟨_,yz,rfl⟩
 unfold pyNext
 exact wpAny_bind (wpAny_attempt (wpAny_callSpecial?_slot (name:=Str.ofString "__next__") ty F.slot_zip_next (wpAny_call_entry F.slot_zip_next ty F.entry_zip_next
  (O5 D yz yI yO y1 y2 m1 m2 ex ey fun h' a1 a2 a3 a4 a5 a6 a7=>wpAny_pure (hQ h' a1 a2 a3 a4 a5 a6 a7)) (F.args_zip_next_1 _))))
def O6 {t1 t2:Bool}{z TI TO i1 i2 l1 l2:Addr}{k1 k2:Nat}{xs ys:Array Value}{a b:Value}{Q:Option Value->Shared->Prop}(hh:A.handled=none)(D:ZipApart z TI TO i1 i2 l1 l2)(yz:IsZip s.heap z TI TO .none)(yI:IsPair s.heap TI (.ref i1) (.ref i2))(yO:IsPair s.heap TO a b)(y1:ItK t1 s.heap i1 l1 k1)(y2:ItK t2 s.heap i2 l2 k2)(m1:SqK t1 s.heap l1 xs)(m2:SqK t2 s.heap l2 ys)(hend:xs[k1]?=none\/ys[k2]?=none)(hQ:∀h',(∀c o,c≠z->c≠TO->c≠i1->c≠i2->s.heap.get? c=some o->h'.get? c=some o)->Q none {s with heap:=h'}):wpAny (model prog w) A (pyNext (.ref z)) Q E s:=by
 have ty:s.TypeIs (.ref z) "zip":=⟨_,yz,rfl⟩
 unfold pyNext
 refine wpAny_bind (wpAny_attempt (wpAny_callSpecial?_slot (name:=Str.ofString "__next__") ty F.slot_zip_next (wpAny_call_entry F.slot_zip_next ty F.entry_zip_next (Zcp hh D yz yI yO y1 y2 m1 m2 hend fun h' e hk he=>?_) (F.args_zip_next_1 _))))
 obtain⟨o,q1,q2⟩:=he
 exact wpAny_bind (wpAny_isInstance (T:="StopIteration") (b:=true) ⟨o,q1,q2⟩ isSubtype_stop (wpAny_pure (hQ _ hk)))
abbrev Za6 (t:Bool)(l:Addr):Obj:={cls:=.type (if t then "tuple_iterator" else "list_iterator"),data:=.fields #[.ref l,.int 0 0]}
abbrev Zjn (t1 t2:Bool)(h:Heap)(l1 l2:Addr):Heap:=(h.push (Za6 t1 l1)).push (Za6 t2 l2)
abbrev Znb (t1 t2:Bool)(h:Heap)(l1 l2:Addr):Heap:=((Zjn t1 t2 h l1 l2).push {cls:=.type "tuple", data:=.seq #[.ref h.objs.size,.ref (h.push (Za6 t1 l1)).objs.size]}).push {cls:=.type "tuple", data:=.seq #[.none,.none]}
abbrev Zkz (t1 t2:Bool)(h:Heap)(l1 l2:Addr):Heap:=(Znb t1 t2 h l1 l2).push {cls:=.type "zip", data:=.fields #[.none,.bool false,.bool false,.ref (Zjn t1 t2 h l1 l2).objs.size,.ref ((Zjn t1 t2 h l1 l2).push {cls:=.type "tuple", data:=.seq #[.ref h.objs.size,.ref (h.push (Za6 t1 l1)).objs.size]}).objs.size]}
def Zn8 (t1 t2:Bool)(l1 l2:Addr)(xs ys:Array Value):Meets (Builtin.«zip.__new__» ⟨[.type "zip", .ref l1,.ref l2],[]⟩) (fun _ R s=>SqK t1 s.heap l1 xs/\SqK t2 s.heap l2 ys/\R (.ok (.ret (.ref (Znb t1 t2 s.heap l1 l2).objs.size))) {s with heap:=Zkz t1 t2 s.heap l1 l2}):=
 .of_wp fun prog w A R s h=>by
  obtain⟨hp,g,d,tk,os⟩:=s
  obtain⟨h1,h2,h⟩:=h
  have sb:=sub_zip
  have b1:SqK t1 (Shared.heap ⟨hp,g,d,tk,os⟩) l1 xs:=h1
  have b2:SqK t2 (Shared.heap ⟨hp.push (Za6 t1 l1),g,d,tk,os⟩) l2 ys:=h2.at fun o q=>Heap.get?_push_of_some _ q
  wp_walk using Zhs b1,Zhs b2
  exact⟨_,rfl,h⟩
def Zma {t1 t2:Bool}{l1 l2:Addr}{xs ys:Array Value}{Q:Value->Shared->Prop}(m1:SqK t1 s.heap l1 xs)(m2:SqK t2 s.heap l2 ys)(h:∀h',IsZip h' (s.heap.objs.size+4) (s.heap.objs.size+2) (s.heap.objs.size+3) .none->IsPair h' (s.heap.objs.size+2) (.ref s.heap.objs.size) (.ref (s.heap.objs.size+1))->IsPair h' (s.heap.objs.size+3) .none .none ->
   ItK t1 h' s.heap.objs.size l1 0->ItK t2 h' (s.heap.objs.size+1) l2 0->(∀c o,s.heap.get? c=some o->h'.get? c=some o)->Q (.ref (s.heap.objs.size+4)) {s with heap:=h'}):wpAny (model prog w) A (call (.type "zip") [.ref l1,.ref l2]) Q E s:=by
 refine callType_new F.called_zip (by decide) (F.typeCall_zip_2 _ _) (F.newCall_zip_2 _ _) (fun obj=>F.args_object_init_3 obj _ _) F.entry_zip_new (Zn8 t1 t2 l1 l2 xs ys) ⟨m1,m2,?_⟩
 have z1:(s.heap.push (Za6 t1 l1)).objs.size=s.heap.objs.size+1:=Heap.size_push ..
 have z2:(Zjn t1 t2 s.heap l1 l2).objs.size=s.heap.objs.size+2:=by rw[Heap.size_push,z1]
 have z3:((Zjn t1 t2 s.heap l1 l2).push {cls:=.type "tuple", data:=.seq #[.ref s.heap.objs.size,.ref (s.heap.push (Za6 t1 l1)).objs.size]}).objs.size=s.heap.objs.size+3:=by rw[Heap.size_push,z2]
 have z4:(Znb t1 t2 s.heap l1 l2).objs.size=s.heap.objs.size+4:=by rw[Heap.size_push,z3]
 have g5:(Zkz t1 t2 s.heap l1 l2).get? (Znb t1 t2 s.heap l1 l2).objs.size=some _:=Heap.get?_push_size _ rfl
 have g4:(Zkz t1 t2 s.heap l1 l2).get? ((Zjn t1 t2 s.heap l1 l2).push {cls:=.type "tuple", data:=.seq #[.ref s.heap.objs.size,.ref (s.heap.push (Za6 t1 l1)).objs.size]}).objs.size=some {cls:=.type "tuple", data:=.seq #[.none,.none]}:=Heap.get?_push_of_some _ (Heap.get?_push_size _ rfl)
 have g3:(Zkz t1 t2 s.heap l1 l2).get? (Zjn t1 t2 s.heap l1 l2).objs.size=some {cls:=.type "tuple", data:=.seq #[.ref s.heap.objs.size,.ref (s.heap.push (Za6 t1 l1)).objs.size]}:=Heap.get?_push_of_some _ (Heap.get?_push_of_some _ (Heap.get?_push_size _ rfl))
 have g2:(Zkz t1 t2 s.heap l1 l2).get? (s.heap.push (Za6 t1 l1)).objs.size=some (Za6 t2 l2):=Heap.get?_push_of_some _ (Heap.get?_push_of_some _ (Heap.get?_push_of_some _ (Heap.get?_push_size _ rfl)))
 have g1:(Zkz t1 t2 s.heap l1 l2).get? s.heap.objs.size=some (Za6 t1 l1):=Heap.get?_push_of_some _ (Heap.get?_push_of_some _ (Heap.get?_push_of_some _ (Heap.get?_push_of_some _ (Heap.get?_push_size _ rfl))))
 show _/\_
 rw[z2,z3,z4] at g5
 rw[z1,z2] at g3
 rw[z3] at g4
 rw[z1] at g2
 rw[z4]
 exact⟨⟨_,g5,rfl⟩,h _ g5 g3 g4 ⟨_,g1,rfl,rfl⟩ ⟨_,g2,rfl,rfl⟩ fun c o q=>Heap.get?_push_of_some _ (Heap.get?_push_of_some _ (Heap.get?_push_of_some _ (Heap.get?_push_of_some _ (Heap.get?_push_of_some _ q))))⟩
end
def S1 (t:Bool)(K:PySem.W.Frag)(H:Hp)(a:Addr)(xs:List V):Prop:=if t=true then SqT K H a xs else SqL K H a xs
def Vj {X:Cx}{pins:List (Addr×Obj)}{σ:L2.St}{H:Hp}{s:Shared}{t:Bool}{a:Addr}{xs:List V}(I:Inv X pins σ H s)(h:S1 t X.K H a xs):∃its:List Value,Vals xs its/\SqK t s.heap a its.toArray:=by
 cases t with
 |false=>
  obtain⟨its,rv,p,_⟩:=I.list (show SqL X.K H a xs from h)
  exact⟨its,rv,p.isList⟩
 |true=>
  obtain⟨its,rv,p,_⟩:=I.tuple (show SqT X.K H a xs from h)
  exact⟨its,rv,p⟩
def F7 {X:Cx}{pins:List (Addr×Obj)}{σ:L2.St}{H:Hp}{s:Shared}{t:Bool}{a:Addr}{xs ys:List V}(I:Inv X pins σ H s)(h:S1 t X.K H a xs)(h':S1 t X.K H a ys):xs=ys:=by
 cases t with
 |false=>exact I.list_inj (show SqL X.K H a xs from h) (show SqL X.K H a ys from h')
 |true=>exact I.tuple_inj (show SqT X.K H a xs from h) (show SqT X.K H a ys from h')
def Kj {K:PySem.W.Frag}{H H':Hp}{t:Bool}{a:Addr}{xs:List V}(e:Same H H')(h:S1 t K H a xs):S1 t K H' a xs:=by
 cases t with
 |false=>exact e.seq (show SqL K H a xs from h)
 |true=>exact e.seqT (show SqT K H a xs from h)
def Zn9 (t1 t2:Bool)(K:PySem.W.Frag)(a b:Addr):It:=
 ⟨fun i H=>∃xs ys x y,S1 t1 K H a xs/\S1 t2 K H b ys/\xs[i]?=some x/\ys[i]?=some y,
  fun i H v H'=>∃p x y,H p=none/\v=.ref p/\H'=upd H p (.tup [x,y])/\(∀xs,S1 t1 K H a xs->xs[i]?=some x)/\∀ys,S1 t2 K H b ys->ys[i]?=some y,
  fun i H=>∃xs ys,S1 t1 K H a xs/\S1 t2 K H b ys/\(xs.length<=i\/ys.length<=i)⟩
abbrev Zpa (t1 t2:Bool)(a b z TI TO i1 i2:Addr)(i:Nat)(h:Heap):Prop:=IsZip h z TI TO .none/\IsPair h TI (.ref i1) (.ref i2)/\(∃p q,IsPair h TO p q)/\ItK t1 h i1 a i/\ItK t2 h i2 b i/\a<z/\b<z/\a≠TO/\b≠TO/\a≠i1/\a≠i2/\b≠i1/\b≠i2
def O7 {P:Program}{w:World}{K:PySem.W.Frag}{es:List Expr}{k:Nat}{pos:Pos}(t1 t2:Bool)(a b z TI TO i1 i2:Addr)(A:ZA z TI TO i1 i2):Turn P w K (.Tuple es k pos) (Zn9 t1 t2 K a b) [z,TI,TO,i1,i2] z (Zpa t1 t2 a b z TI TO i1 i2) where
 mem:=by simp
 obj:=fun i h st c hc=>by
  obtain⟨hz,hTI,⟨p,q,hTO⟩,⟨o1,e1,c1,d1⟩,⟨o2,e2,c2,d2⟩,_⟩:=st
  simp at hc
  rcases hc with rfl|rfl|rfl|rfl|rfl
  ·exact⟨_,hz,fun v z=>by cases z⟩
  ·exact⟨_,hTI,fun v z=>by cases z⟩
  ·exact⟨_,hTO,fun v z=>by cases z⟩
  ·exact⟨o1,e1,fun v z=>by rw[d1] at z;cases z⟩
  ·exact⟨o2,e2,fun v z=>by rw[d2] at z;cases z⟩
 keep:=fun i h h' st kk=>by
  obtain⟨hz,hTI,⟨p,q,hTO⟩,h1,h2,ap⟩:=st
  exact⟨kk z (by simp) _ hz,kk TI (by simp) _ hTI,⟨p,q,kk TO (by simp) _ hTO⟩,h1.at fun o e=>kk i1 (by simp) o e,h2.at fun o e=>kk i2 (by simp) o e,ap⟩
 item:=by
  intro X hP hw hK hc i pins s σ H E I hf st hg
  subst hP hw hK
  obtain⟨xs,ys,x,y,hq1,hq2,hx,hy⟩:=hg
  obtain⟨its1,rv1,p1⟩:=Vj I hq1
  obtain⟨its2,rv2,p2⟩:=Vj I hq2
  obtain⟨u1,hu1,ru1⟩:=rv1.get hx
  obtain⟨u2,hu2,ru2⟩:=rv2.get hy
  obtain⟨hz,hTI,⟨p,q,hTO⟩,h1,h2,w1,w2,w3,w4,w5,w6,w7,w8⟩:=id st
  have D:ZipApart z TI TO i1 i2 a b:=⟨A.TIz,A.TOz,A.i1z,A.i2z,A.TITO,A.TIi1,A.TIi2,A.TOi1,A.TOi2,A.i12,Nat.ne_of_lt w1,w3,w5,w6,Nat.ne_of_lt w2,w4,w7,w8⟩
  refine Eo D hz hTI hTO h1 h2 p1 p2 (x:=u1) (y:=u2) (by simpa using hu1) (by simpa using hu2) fun h' a1 a2 a3 a4 a5 a6 a7=>⟨_,rfl,wpAny_letOwnedTupleGo_zip a1 fun h'' b1 b2=>?_⟩
  have lt:∀{c o},s.heap.get? c=some o->c≠s.heap.objs.size:=fun e=>Nat.ne_of_lt (Heap.lt_size e)
  have kk:∀b u,b ∉ [z,TI,TO,i1,i2]->s.heap.get? b=some u->h''.get? b=some u:=fun b u nb q=>(b2.2 b (fun z=>nb (by simp[z]))).trans (a7 b u (fun z=>nb (by simp[z])) (fun z=>nb (by simp[z])) (fun z=>nb (by simp[z])) (fun z=>nb (by simp[z])) q)
  have hT:h''.get? s.heap.objs.size=some {cls:=.type "tuple", data:=.seq #[u1,u2]}:=(b2.2 _ (Ne.symm (lt hz))).trans a5
  refine⟨.ref s.heap.objs.size,_,I.turnedT (o:=.tup [x,y]) (t':=s.toks) hf kk (Nat.le_refl _) ⟨by show 2<=sizeLine;decide,[u1,u2],.cons ru1 (.cons ru2 .nil),⟨_,hT,rfl,_,rfl⟩⟩,rfl,
   ⟨_,x,y,I.fresh,rfl,rfl,fun zs hy=>by rw[F7 I hy hq1];exact hx,fun zs hy'=>by rw[F7 I hy' hq2];exact hy⟩,
   ⟨b1,(b2.2 TI A.TIz).trans (a7 _ _ A.TIz A.TITO A.TIi1 A.TIi2 hTI),⟨u1,u2,(b2.2 TO A.TOz).trans a2⟩,a3.at fun o q=>(b2.2 i1 A.i1z).trans q,a4.at fun o q=>(b2.2 i2 A.i2z).trans q,w1,w2,w3,w4,w5,w6,w7,w8⟩,fun b hb=>?_⟩
  have:b≠s.heap.objs.size:=by
   obtain⟨o1,e1,_⟩:=id h1
   obtain⟨o2,e2,_⟩:=id h2
   have hb':=hb
   simp at hb'
   rcases hb' with rfl|rfl|rfl|rfl|rfl
   ·exact lt hz
   ·exact lt hTI
   ·exact lt hTO
   ·exact lt e1
   ·exact lt e2
  rw[Zm this];exact(hf b hb).1
 done:=by
  intro X hP hw hK hc i pins s σ H E I hf st hg
  subst hP hw hK
  obtain⟨xs,ys,hq1,hq2,hx⟩:=hg
  obtain⟨its1,rv1,p1⟩:=Vj I hq1
  obtain⟨its2,rv2,p2⟩:=Vj I hq2
  have hl1:=rv1.length
  have hl2:=rv2.length
  obtain⟨hz,hTI,⟨p,q,hTO⟩,h1,h2,w1,w2,w3,w4,w5,w6,w7,w8⟩:=id st
  have D:ZipApart z TI TO i1 i2 a b:=⟨A.TIz,A.TOz,A.i1z,A.i2z,A.TITO,A.TIi1,A.TIi2,A.TOi1,A.TOi2,A.i12,Nat.ne_of_lt w1,w3,w5,w6,Nat.ne_of_lt w2,w4,w7,w8⟩
  refine O6 (I.ok.hd hc) D hz hTI hTO h1 h2 p1 p2 ?_ fun h' eb=>⟨rfl,I.turnedF (t':=s.toks) hf fun b u nb q=>eb b u (fun z=>nb (by simp[z])) (fun z=>nb (by simp[z])) (fun z=>nb (by simp[z])) (fun z=>nb (by simp[z])) q⟩
  rcases hx with hx|hx
  ·exact .inl (by simp;lia)
  ·exact .inr (by simp;lia)
 self:=fun _ _ _ _ _ st h=>wpAny_pyIter_zip st.1 h
section
variable {X:Cx}{E:XK}{pos p p2:Pos}{es:List Expr}{k:Nat}
def Zpb (t1 t2:Bool)(K:PySem.W.Frag)(tl:TA):TI:=fun σ H R=>tl σ H fun vs H1=>∃a b,vs=[.ref a,.ref b]/\(∃xs,S1 t1 K H1 a xs)/\(∃ys,S1 t2 K H1 b ys)/\R (Zn9 t1 t2 K a b) H1
def Zfz (t1 t2:Bool){l m:Expr}{tl:TA} (hg:Gl X "zip") (hm:X.mg "zip"=none) (hl:PA X [l,m] tl) (hs:starEach [l,m] X.env=[(false,eval l X.env),(false,eval m X.env)]:=by rfl) (hs2:starEach [m] X.env=[(false,eval m X.env)]:=by rfl):
  PI X (.Tuple es k p2) (.Call (.Name "zip" p) [l,m] [] pos) (Zpb t1 t2 X.K tl):=by
 intro pins s σ H R I h
 refine Call_ (U1 I hg hm boot_zip (PyProof.Rows.callWith_type1 (Yj (hl pos pins s σ H _ I h) fun us s1 ⟨vs,H1,I1,r1,q1⟩=>?_) (by rw[hs,hs2]) (by rw[hs2];rfl)))
 obtain⟨a,b,rfl,⟨xs,hq⟩,⟨ys,hq2⟩,q⟩:=q1
 obtain⟨u,w',rfl,rx,ry⟩:=Sj r1
 cases rx
 cases ry
 obtain⟨its,rv,pl⟩:=Vj I1 hq
 obtain⟨its2,rv2,pl2⟩:=Vj I1 hq2
 refine Zma pl pl2 fun h' e1 e2 e3 e4 e5 e7=>wpAny_pyIter_zip e1 ?_
 have I2:Inv X pins σ H1 {s1 with heap:=h'}:=I1.kept (t':=s1.toks) e7
 have la:a<s1.heap.objs.size:=by obtain⟨o,z,_⟩:=pl;exact Heap.lt_size z
 have lb:b<s1.heap.objs.size:=by obtain⟨o,z,_⟩:=pl2;exact Heap.lt_size z
 refine⟨s1.heap.objs.size+4,[s1.heap.objs.size+4,s1.heap.objs.size+2,s1.heap.objs.size+3,s1.heap.objs.size,s1.heap.objs.size+1],_,_,H1,rfl,I2,O7 t1 t2 a b (s1.heap.objs.size+4) (s1.heap.objs.size+2) (s1.heap.objs.size+3) s1.heap.objs.size (s1.heap.objs.size+1) (Zo9 _),
  ⟨e1,e2,⟨_,_,e3⟩,e4,e5,Nat.lt_of_lt_of_le la (Nat.le_add_right _ _),Nat.lt_of_lt_of_le lb (Nat.le_add_right _ _),Nat.ne_of_lt (Nat.lt_of_lt_of_le la (Nat.le_add_right _ _)),Nat.ne_of_lt (Nat.lt_of_lt_of_le lb (Nat.le_add_right _ _)),Nat.ne_of_lt la,Nat.ne_of_lt (Nat.lt_succ_of_lt la),Nat.ne_of_lt lb,Nat.ne_of_lt (Nat.lt_succ_of_lt lb)⟩,fun b hb=>?_,q⟩
 have hb:s1.heap.objs.size<=b:=by simp at hb;rcases hb with rfl|rfl|rfl|rfl|rfl<;>lia
 exact I1.fpOk hb (I1.hok.fresh hb)
def Zjo {t1 t2:Bool}{K:PySem.W.Frag}{Hf H:Hp}{a b:Addr}{xs ys:List V}{ds es:List D}(h:S1 t1 K Hf a xs)(r:Reps K Hf ds xs)(h':S1 t2 K Hf b ys)(r':Reps K Hf es ys):Rs K Hf H (Zfv ds es) (Zn9 t1 t2 K a b):=by
 intro i Hf1 H1 e1 e2
 have h2:=Kj e2 (Kj e1 h)
 have h3:=Kj e2 (Kj e1 h')
 rw[Zce]
 cases q:ds[i]? with
 |none=>exact⟨xs,ys,h2,h3,.inl (List.getElem?_eq_none_iff.mp (r.none_of q))⟩
 |some d=>
  cases q':es[i]? with
  |none=>exact⟨xs,ys,h2,h3,.inr (List.getElem?_eq_none_iff.mp (r'.none_of q'))⟩
  |some e=>
   obtain⟨x,ex,rx⟩:=r.get q
   obtain⟨y,ey,ry⟩:=r'.get q'
   refine⟨⟨xs,ys,x,y,h2,h3,ex,ey⟩,fun v H2 hy=>?_⟩
   obtain⟨p,x',y',hp,rfl,rfl,hall,hall'⟩:=hy
   have ex':=hall xs h2
   rw[ex] at ex'
   cases ex'
   have ey':=hall' ys h3
   rw[ey] at ey'
   cases ey'
   exact⟨_,Gr.alloc e2 hp _,Gr.tup e2 hp (Reps.cons (rx.mono e1) (Reps.cons (ry.mono e1) Reps.nil))⟩
end
end DL
namespace DL
open PySem PySem.Spec PyProof.Rows L2 PySem.W
def Nf (s:Stmt)(j:Nat):Stmt:=match s with
 |.ClassDef _ _ _ body _ _ _ _ _ _ _=>body.getD j (.Pass ⟨0,0,0,0⟩)
 |_=>.Pass ⟨0,0,0,0⟩
def Uw (q:Nat->Nat->Option Bool){α:Type}:KasT α->Option α
 |.ret a=>some a
 |.ask i j k=>match q i j with
  |some b=>Uw q (k b)
  |none=>none
theorem F8 {q:Nat->Nat->Option Bool}{cmp:Nat->Nat->(Bool->Shared->Prop)->Shared->Prop}{α:Type}{Q:α->Shared->Prop}{s:Shared}{a:α}(hc:∀i j b C,q i j=some b->C b s->cmp i j C s):∀t:KasT α,Uw q t=some a->Q a s->t.kasWp cmp Q s
 |.ret b,e,h=>by
  cases (Option.some.inj (show some b=some a from e))
  exact h
 |.ask i j k,e,h=>by
  unfold Uw at e
  cases z:q i j with
  |none=>rw[z] at e;cases e
  |some b=>
   rw[z] at e
   exact hc i j b _ z (F8 hc (k b) e h)
def Znc:V->V->Option Bool
 |.int a,.int b=>some (decide (a<b))
 |.str a,.str b=>some (decide (a.cps.toList<b.cps.toList))
 |_,_=>none
def Zmb:V->V->Option Bool
 |.int a,.int b=>some (a==b)
 |.str a,.str b=>some (a==b)
 |_,_=>none
def Zf0:List V->List V->Option Bool
 |[],[]=>some false
 |x::xs,y::ys=>match Zmb x y with
  |some true=>Zf0 xs ys
  |some false=>Znc x y
  |none=>none
 |_,_=>none
section
variable {prog:Program}{w:World}{A:Around}{E:Value->Shared->Prop}{s:Shared}
def Zjp {x y:V}{u v:Value}{b:Bool}{Q:Bool->Shared->Prop}(h:Zmb x y=some b)(rx:RelV x u)(ry:RelV y v)(q:Q b s):wpAny (model prog w) A (eqBool u v) Q E s:=by
 unfold Zmb at h
 split at h
 ·obtain⟨t,rfl⟩:=rx
  obtain⟨t',rfl⟩:=ry
  cases h
  exact wpAny_eqBool_int q
 ·obtain⟨t,rfl⟩:=rx
  obtain⟨t',rfl⟩:=ry
  cases h
  exact PyProof.Rows.eqBool_str q
 ·cases h
def Zjq {o:Bool}{x y:V}{u v:Value}{b:Bool}{Q:Bool->Shared->Prop}(h:Znc x y=some b)(rx:RelV x u)(ry:RelV y v)(q:Q b s):wpAny (model prog w) A (oneLt' o u v) Q E s:=by
 unfold Znc at h
 split at h
 ·obtain⟨t,rfl⟩:=rx
  obtain⟨t',rfl⟩:=ry
  cases h
  cases o with
  |true=>exact oneLt_int q
  |false=>exact kat_one _ _ (PyProof.Rows.lt_int q)
 ·obtain⟨t,rfl⟩:=rx
  obtain⟨t',rfl⟩:=ry
  cases h
  cases o with
  |true=>exact PyProof.Rows.oneLt_str q
  |false=>exact kat_one _ _ (PyProof.Rows.lt_str q)
 ·cases h
theorem Zcq {o:Bool}{r:Bool}{Q:Bool->Shared->Prop}:∀{xs ys:List V}{us vs:List Value} (i:Nat),Zf0 xs ys=some r->Vals xs us->Vals ys vs->Q r s->KatLex prog w A o false Q (us.zip vs) i s
 |[],[],_,_,i,h,.nil,.nil,q=>by
  cases (Option.some.inj (show some false=some r from h))
  exact kat_nil q
 |x::xs,y::ys,_,_,i,h,.cons rx r1,.cons ry r2,q=>by
  unfold Zf0 at h
  refine kat_cons ?_
  cases z:Zmb x y with
  |none=>rw[z] at h;cases h
  |some b=>
   rw[z] at h
   refine Zjp z rx ry ?_
   cases b with
   |true=>exact kat_yes (Zcq (i+1) h r1 r2 q)
   |false=>exact kat_no (Zjq h rx ry q)
 |[],_::_,_,_,_,h,_,_,_=>by cases h
 |_::_,[],_,_,_,h,_,_,_=>by cases h
def Ep {a:Addr}{vs:List Value}{n:Nat}{κ:SortKind}{q:Nat->Nat->Option Bool}{p:Array Nat}{P:Fin->Shared->Prop} (ho:s.heap.get? a=some (seqObj "list" vs.toArray n)) (h2:2<=vs.length) (h64:vs.length<64)
  (hk:∀h',(∀b o,b≠a->s.heap.get? b=some o->h'.get? b=some o)->∀Q:SortKind->Shared->Prop,Q κ {s with heap:=h'}->wpAny (model prog w) A (keyKind' vs.toArray) Q E {s with heap:=h'})
  (hq:∀h',(∀b o,b≠a->s.heap.get? b=some o->h'.get? b=some o)->∀i j b (C:Bool->Shared->Prop),q i j=some b->C b {s with heap:=h'}->kas_ask prog w A κ vs i j C {s with heap:=h'})
  (hp:Uw q (kas_sort vs.length)=some p) (h:p.size=vs.length->P (.done (.ret .none)) {s with heap:=sortedHeap s.heap a vs (p.toList.map fun i=>vs.getD i Value.none).toArray}):
  wpAny (model prog w) A (Builtin.«list.sort» ⟨[.ref a],[]⟩) P E s:=by
 have la:a<s.heap.objs.size:=Heap.lt_size ho
 obtain⟨e1,ho1⟩:∃e1,(s.heap.update a (Obj.mapSeq fun _=>#[])).get? a=some (seqObj "list" #[] e1):=⟨_,get?_update_seq ho fun _=>#[]⟩
 have keep:∀b o,b≠a->s.heap.get? b=some o->(((s.heap.update a (Obj.mapSeq fun _=>#[])).push (seqObj "tuple" vs.toArray 0)).push (seqObj "list" #[] 0)).get? b=some o:=
  fun b o nb e=>Heap.get?_push_of_some _ (Heap.get?_push_of_some _ ((Heap.get?_update_other _ _ (Ne.symm nb)).trans e))
 have ho6:(((s.heap.update a (Obj.mapSeq fun _=>#[])).push (seqObj "tuple" vs.toArray 0)).push (seqObj "list" #[] 0)).get? a=some (seqObj "list" #[] e1):=Heap.get?_push_of_some _ (Heap.get?_push_of_some _ ho1)
 have z1:vs.toArray.size<=sizeLine:=by rw[List.size_toArray,sizeLine_eq];lia
 have n2:¬vs.toArray.size<2:=by rw[List.size_toArray];lia
 rw[list_sort_plain]
 refine wpAny_bind (listItems_at ho rfl (wpAny_bind (listUpdate_at ho rfl (wpAny_bind (seqEpoch_at ho1 rfl (wpAny_bind (wpAny_newTuple (wpAny_bind (wpAny_newList (wpAny_holding ?_) (Nat.zero_le _))) (by simpa using z1))))) z1 (Nat.zero_le _))))
 dsimp only
 rw[if_neg n2,if_neg n2]
 refine wpAny_bind (hk _ keep _ ?_)
 have hz:(vs.toArray.zip vs.toArray)=pairsOf vs:=rfl
 refine wpAny_bind (wpAny_mono (kat_run (ks:=vs) (vs:=vs) (κ:=κ) (Q:=fun st' s'=>p.size=vs.length/\arrOf st'=p.map (kas_item (vs.toArray.zip vs.toArray))/\failedOf st'=none/\s'=_) (G:=fun p' s'=>p'=p/\s'=_) rfl h2 h64
  (fun p' st' s' a1 a2 a3 a4=>by obtain⟨rfl,e⟩:=a4;exact⟨a1,a2,a3,e⟩) (F8 (hq _ keep) _ hp ⟨rfl,rfl⟩)) ?_ fun _ _ x=>x)
 rintro⟨⟨⟩,st'⟩ s' ⟨zz,har,hf,rfl⟩
 dsimp only
 have hout:=kat_snds (ks:=vs) (vs:=vs) rfl har
 refine wpAny_bind (seqEpoch_at ho6 rfl (wpAny_bind (listUpdate_at ho6 rfl ?_ (Nat.zero_le _) (by rw[hout,List.size_toArray,List.length_map,Array.length_toList,zz,sizeLine_eq];lia))))
 rw[hf]
 simp only[bne_self_eq_false,Bool.false_eq_true,if_false]
 rw[hout]
 exact wpAny_pure (h zz)
def Cj {t:Bool}{l:Addr}{vs:List Value}{Q:List Value->Shared->Prop}(hl:SqK t s.heap l vs.toArray) (h:Q vs {s with heap:=(s.heap.push (seqObj "list" #[] 0)).update s.heap.objs.size (Obj.mapSeq (·++vs.toArray))}) (hz:vs.length<=sizeLine):
  wpAny (model prog w) A (collect (.ref l)) Q E s:=by
 cases t with
 |false=>exact collect_list (show s.heap.IsList l vs.toArray from hl) h hz
 |true=>
  obtain⟨o,ho,hc,n,hd⟩:=id hl
  have ho':(s.heap.push (seqObj "list" #[] 0)).get? l=some o:=Heap.get?_push_of_some _ ho
  have hn:(s.heap.push (seqObj "list" #[] 0)).get? s.heap.objs.size=some (seqObj "list" #[] 0):=Heap.get?_push_size _ rfl
  unfold collect
  refine wpAny_bind (wpAny_runValue (codeAny_builtin entry_proto_collect' (wpAny_bind (m:=newList []) (wpAny_newList (wpAny_pure ⟨Code.quiet_builtin _ (by decide +kernel),codeAny_builtin entry_list_iadd' ?_⟩)))))
  change wpAny _ _ (Builtin.List.listExtendWith _ _ _) _ _ _
  unfold Builtin.List.listExtendWith
  refine wpAny_bind (wpAny_typeOf (T:="tuple") ⟨o,ho',hc⟩ ?_)
  have ht:(Value.type "tuple"== Value.type "tuple")=true:=by rfl
  rw[if_pos (by rw[ht];simp)]
  refine wpAny_bind (listItems_at ho' hd (wpAny_bind (listItems_at hn rfl ?_)))
  rw[if_neg (by simp)]
  refine wpAny_bind (listUpdate_at hn rfl (wpAny_pure ?_) (Nat.zero_le _) (by show(#[]++vs.toArray).size<=_;simp only[Array.size_append,List.size_toArray,List.length_nil];lia))
  change wpAny _ _ (do
   let o <-load s.heap.objs.size
   match o.data with
   |.seq xs _=>pure xs.toList
   |_=>unsupported "internal:collect") Q E _
  refine wpAny_bind (wpAny_load (get?_update_seq hn _) ?_)
  change wpAny _ _ (pure ((#[]:Array Value)++vs.toArray).toList) Q E _
  have e0:((#[]:Array Value)++vs.toArray).toList=vs:=by simp
  rw[e0]
  exact wpAny_pure h
def Zf1 {t:Bool}{l:Addr}{vs:List Value}{κ:SortKind}{q:Nat->Nat->Option Bool}{p:Array Nat}{Q:Value->Shared->Prop}(hl:SqK t s.heap l vs.toArray)(h2:2<=vs.length)(h64:vs.length<64)(hk:∀A' E' h',(∀b o,s.heap.get? b=some o->h'.get? b=some o)->∀Q:SortKind->Shared->Prop,Q κ {s with heap:=h'}->wpAny (model prog w) A' (keyKind' vs.toArray) Q E' {s with heap:=h'})(hq:∀A' h',(∀b o,s.heap.get? b=some o->h'.get? b=some o)->∀i j b (C:Bool->Shared->Prop),q i j=some b->C b {s with heap:=h'}->kas_ask prog w A' κ vs i j C {s with heap:=h'})(hp:Uw q (kas_sort vs.length)=some p)(h:p.size=vs.length->Q (.ref (s.heap.objs.size+1)) {s with heap:=sortedAll s.heap vs (p.toList.map fun i=>vs.getD i Value.none).toArray}):
  wpAny (model prog w) A (call (.builtin "sorted") [.ref l]) Q E s:=by
 have z1:vs.length<=sizeLine:=by rw[sizeLine_eq];lia
 refine Calls.call_function_entry kind_sorted plain_sorted entry_sorted (args_sorted1 _) ?_
 unfold Builtin.«sorted»
 refine wpAny_bind (m:=checkCount "sorted" 1 1 _) (wpAny_pure (wpAny_bind (Cj hl (wpAny_bind (wpAny_newList ?_ z1)) z1)))
 have hsz:((s.heap.push (seqObj "list" #[] 0)).update s.heap.objs.size (Obj.mapSeq (·++vs.toArray))).objs.size=s.heap.objs.size+1:=(Heap.size_update ..).trans (size_push' ..)
 have hoL:(((s.heap.push (seqObj "list" #[] 0)).update s.heap.objs.size (Obj.mapSeq (·++vs.toArray))).push (seqObj "list" vs.toArray 0)).get? (s.heap.objs.size+1)=some (seqObj "list" vs.toArray 0):=hsz▸Heap.get?_push_size _ rfl
 have keep:∀b o,s.heap.get? b=some o->(((s.heap.push (seqObj "list" #[] 0)).update s.heap.objs.size (Obj.mapSeq (·++vs.toArray))).push (seqObj "list" vs.toArray 0)).get? b=some o:=fun b o e=>
  Heap.get?_push_of_some _ ((Heap.get?_update_other _ _ (Nat.ne_of_gt (Heap.lt_size e))).trans (Heap.get?_push_of_some _ e))
 have nb:∀b o,s.heap.get? b=some o->b≠s.heap.objs.size+1:=fun b o e=>Nat.ne_of_lt (Nat.lt_succ_of_lt (Heap.lt_size e))
 change wpAny _ _ _ _ _ {s with heap:=((s.heap.push (seqObj "list" #[] 0)).update s.heap.objs.size (Obj.mapSeq (·++vs.toArray))).push (seqObj "list" vs.toArray 0)}
 rw[hsz]
 refine wpAny_bind (wpAny_holding (wpAny_call_entry slot_list_sort ⟨_,hoL,rfl⟩ entry_list_sort (Ep (κ:=κ) (q:=q) (p:=p) hoL h2 h64 (fun h' e Q hQ=>hk _ _ h' (fun b o z=>e b o (nb b o z) (keep b o z)) Q hQ)
  (fun h' e=>hq _ h' fun b o z=>e b o (nb b o z) (keep b o z)) hp fun hz=>⟨_,rfl,wpAny_pure ⟨_,rfl,h hz⟩⟩) (args_list_sort _)))
def Er {a:Addr}{vs:List Value}{n:Nat}{P:Fin->Shared->Prop} (ho:s.heap.get? a=some (seqObj "list" vs.toArray n)) (h2:vs.length<2)
  (h:P (.done (.ret .none)) {s with heap:=sortedHeap s.heap a vs vs.toArray}):wpAny (model prog w) A (Builtin.«list.sort» ⟨[.ref a],[]⟩) P E s:=by
 obtain⟨e1,ho1⟩:∃e1,(s.heap.update a (Obj.mapSeq fun _=>#[])).get? a=some (seqObj "list" #[] e1):=⟨_,get?_update_seq ho fun _=>#[]⟩
 have ho6:(((s.heap.update a (Obj.mapSeq fun _=>#[])).push (seqObj "tuple" vs.toArray 0)).push (seqObj "list" #[] 0)).get? a=some (seqObj "list" #[] e1):=Heap.get?_push_of_some _ (Heap.get?_push_of_some _ ho1)
 have z1:vs.toArray.size<=sizeLine:=by rw[List.size_toArray,sizeLine_eq];lia
 rw[list_sort_plain]
 refine wpAny_bind (listItems_at ho rfl (wpAny_bind (listUpdate_at ho rfl (wpAny_bind (seqEpoch_at ho1 rfl (wpAny_bind (wpAny_newTuple (wpAny_bind (wpAny_newList (wpAny_holding ?_) (Nat.zero_le _))) (by simpa using z1))))) z1 (Nat.zero_le _))))
 dsimp only
 have n2:vs.toArray.size<2:=by rw[List.size_toArray];exact h2
 rw[if_pos n2,if_pos n2]
 refine wpAny_bind (wpAny_pure ?_)
 rw[StateT.run_pure]
 refine wpAny_bind (wpAny_pure ?_)
 dsimp only
 have eo:(vs.toArray.zip vs.toArray).map (·.2)=vs.toArray:=by
  apply Array.toList_inj.mp
  rw[Array.toList_map,Array.toList_zip,List.map_snd_zip]
  lia
 refine wpAny_bind (seqEpoch_at ho6 rfl (wpAny_bind (listUpdate_at ho6 rfl ?_ (Nat.zero_le _) (by show((vs.toArray.zip vs.toArray).map (·.2)).size<=_;rw[eo];lia))))
 simp only[bne_self_eq_false,Bool.false_eq_true,if_false]
 change wpAny _ _ (ret .none) _ _ {s with heap:=sortedHeap s.heap a vs ((vs.toArray.zip vs.toArray).map (·.2))}
 rw[eo]
 exact wpAny_pure h
def Zf2 {t:Bool}{l:Addr}{vs:List Value}{Q:Value->Shared->Prop}(hl:SqK t s.heap l vs.toArray)(h2:vs.length<2)(h:Q (.ref (s.heap.objs.size+1)) {s with heap:=sortedAll s.heap vs vs.toArray}):
  wpAny (model prog w) A (call (.builtin "sorted") [.ref l]) Q E s:=by
 have z1:vs.length<=sizeLine:=by rw[sizeLine_eq];lia
 refine Calls.call_function_entry kind_sorted plain_sorted entry_sorted (args_sorted1 _) ?_
 unfold Builtin.«sorted»
 refine wpAny_bind (m:=checkCount "sorted" 1 1 _) (wpAny_pure (wpAny_bind (Cj hl (wpAny_bind (wpAny_newList ?_ z1)) z1)))
 have hsz:((s.heap.push (seqObj "list" #[] 0)).update s.heap.objs.size (Obj.mapSeq (·++vs.toArray))).objs.size=s.heap.objs.size+1:=(Heap.size_update ..).trans (size_push' ..)
 have hoL:(((s.heap.push (seqObj "list" #[] 0)).update s.heap.objs.size (Obj.mapSeq (·++vs.toArray))).push (seqObj "list" vs.toArray 0)).get? (s.heap.objs.size+1)=some (seqObj "list" vs.toArray 0):=hsz▸Heap.get?_push_size _ rfl
 change wpAny _ _ _ _ _ {s with heap:=((s.heap.push (seqObj "list" #[] 0)).update s.heap.objs.size (Obj.mapSeq (·++vs.toArray))).push (seqObj "list" vs.toArray 0)}
 rw[hsz]
 exact wpAny_bind (wpAny_holding (wpAny_call_entry slot_list_sort ⟨_,hoL,rfl⟩ entry_list_sort (Er hoL h2 ⟨_,rfl,wpAny_pure ⟨_,rfl,h⟩⟩) (args_list_sort _)))
end
def Ng:List V->Bool
 |.str _::_=>true
 |_=>false
def Nh:List V->Bool
 |.int _::_=>true
 |_=>false
def RowsH (h:Heap):List Value->List (List V)->Prop:=Paired fun u y=>∃a us,u=Value.ref a/\IsTup h a us.toArray/\Vals y us
def RowsH.mono {h h':Heap}{us:List Value}{ys:List (List V)}(k:∀b o,h.get? b=some o->h'.get? b=some o)(r:RowsH h us ys):RowsH h' us ys:=
 Paired.mapP r fun u y q=>by
  obtain⟨a,vs,e,⟨o,e1,e2⟩,e3⟩:=q
  exact⟨a,vs,e,⟨o,k _ _ e1,e2⟩,e3⟩
theorem RowsH.firstS {h:Heap}:∀{us:List Value}{ys:List (List V)},RowsH h us ys->ys.all Ng=true->∃fs,KatTups h us fs/\(∀v∈fs,∃x t,v=Value.str x t)/\fs.length=us.length
 |_,_,.nil,_=>⟨[],KatTups.nil,fun v hv=>(by cases hv),rfl⟩
 |_,y::ys,.cons q r,hs=>by
  rw[List.all_cons,Bool.and_eq_true] at hs
  obtain⟨fs,k1,k2,k3⟩:=RowsH.firstS r hs.2
  obtain⟨a,vs,rfl,⟨o,e1,e2,n,e3⟩,e4⟩:=q
  cases y with
  |nil=>simp[Ng] at hs
  |cons z y=>
   cases z with
   |str x=>
    cases e4 with
    |cons rx rr=>
     obtain⟨t,rfl⟩:=rx
     exact⟨Value.str x t::fs,KatTups.cons e1 e2 e3 (by simp) k1,fun v hv=>by
      rcases List.mem_cons.mp hv with rfl|hv
      ·exact⟨x,t,rfl⟩
      ·exact k2 v hv,by rw[List.length_cons,List.length_cons,k3]⟩
   |_=>simp[Ng] at hs
theorem RowsH.firstI {h:Heap}:∀{us:List Value}{ys:List (List V)},RowsH h us ys->ys.all Nh=true->∃fs,KatTups h us fs/\(∀v∈fs,∃x t,v=Value.int x t)/\fs.length=us.length
 |_,_,.nil,_=>⟨[],KatTups.nil,fun v hv=>(by cases hv),rfl⟩
 |_,y::ys,.cons q r,hs=>by
  rw[List.all_cons,Bool.and_eq_true] at hs
  obtain⟨fs,k1,k2,k3⟩:=RowsH.firstI r hs.2
  obtain⟨a,vs,rfl,⟨o,e1,e2,n,e3⟩,e4⟩:=q
  cases y with
  |nil=>simp[Nh] at hs
  |cons z y=>
   cases z with
   |int x=>
    cases e4 with
    |cons rx rr=>
     obtain⟨t,rfl⟩:=rx
     exact⟨Value.int x t::fs,KatTups.cons e1 e2 e3 (by simp) k1,fun v hv=>by
      rcases List.mem_cons.mp hv with rfl|hv
      ·exact⟨x,t,rfl⟩
      ·exact k2 v hv,by rw[List.length_cons,List.length_cons,k3]⟩
   |_=>simp[Nh] at hs
theorem RowsH.get {h:Heap}:∀{us:List Value}{ys:List (List V)}{i:Nat}{y:List V},RowsH h us ys->ys[i]?=some y->∃a vs,us.getD i Value.none=Value.ref a/\IsTup h a vs.toArray/\Vals y vs
 |_,_,_,_,.nil,e=>by simp at e
 |_,_,0,_,.cons q _,e=>by
  simp at e
  subst e
  obtain⟨a,vs,rfl,e1,e2⟩:=q
  exact⟨a,vs,rfl,e1,e2⟩
 |_,_,i+1,_,.cons _ r,e=>by
  obtain⟨a,vs,e1,e2,e3⟩:=RowsH.get (i:=i) r (by simpa using e)
  exact⟨a,vs,by simpa using e1,e2,e3⟩
def La (ys:List (List V))(i j:Nat):Option Bool:=match ys[i]?,ys[j]? with
 |some x,some y=>if x.length=y.length then Zf0 x y else none
 |_,_=>none
def Zf3 {prog:Program}{w:World}{A:Around}{s:Shared}{o:Bool}{us:List Value}{ys:List (List V)}(r:RowsH s.heap us ys){i j:Nat}{b:Bool}{C:Bool->Shared->Prop}(e:La ys i j=some b)(h:C b s):kas_ask prog w A (tuples' o) us i j C s:=by
 unfold La at e
 split at e
 ·rename_i x y ex ey
  split at e
  ·rename_i hl
   obtain⟨a,vs,e1,⟨o1,e2,_,n,e3⟩,e4⟩:=r.get ex
   obtain⟨a',vs',e1',⟨o1',e2',_,n',e3'⟩,e4'⟩:=r.get ey
   unfold kas_ask
   rw[e1,e1']
   refine kat_lt e2 e3 e2' e3' ?_
   have l1:=e4.length
   have l2:=e4'.length
   have:decide (vs.toArray.size<vs'.toArray.size)=false:=decide_eq_false (by rw[List.size_toArray,List.size_toArray];lia)
   rw[this]
   exact Zcq 0 e e4 e4' h
  ·cases e
 ·cases e
def RowsT (H:Hp):List V->List (List V)->Prop:=Paired fun z y=>∃a,z=V.ref a/\H a=some (.tup y)
theorem Zcr {X:Cx}{pins:List (Addr×Obj)}{σ:L2.St}{H:Hp}{s:Shared}(I:Inv X pins σ H s):∀{zs:List V}{ys:List (List V)}{us:List Value},RowsT H zs ys->Vals zs us->RowsH s.heap us ys
 |_,_,_,.nil,.nil=>.nil
 |_,_,_,.cons q r,.cons v t=>.cons (by
   obtain⟨a,rfl,e⟩:=q
   cases v
   obtain⟨its,rv,p,_⟩:=I.tuple (SqT.of e)
   exact⟨a,its,rfl,p,rv⟩) (Zcr I r t)
theorem Ma {zs:List V}{us:List Value}(r:Vals zs us):∀l:List Nat,Vals (l.map fun i=>zs.getD i .non) (l.map fun i=>us.getD i Value.none)
 |[]=>.nil
 |i::l=>.cons (by
   by_cases h:i<zs.length
   ·obtain⟨u,e1,e2⟩:=r.get (List.getElem?_eq_getElem h)
    dsimp only
    rw[List.getD_eq_getElem?_getD,List.getD_eq_getElem?_getD,e1,List.getElem?_eq_getElem h]
    exact e2
   ·have h1:zs[i]?=none:=List.getElem?_eq_none_iff.mpr (by lia)
    have h2:us[i]?=none:=r.none_of h1
    dsimp only
    rw[List.getD_eq_getElem?_getD,List.getD_eq_getElem?_getD,h1,h2]
    exact rfl) (Ma r l)
section
variable {X:Cx}{E:XK}
def Es:CallR X (.builtin "sorted") (fun xs H Q=>∃(t:Bool) (p:Addr) (zs:List V) (ys:List (List V)) (q:Array Nat),xs=[.ref p]/\S1 t X.K H p zs/\RowsT H zs ys/\2<=zs.length/\zs.length<64/\(ys.all Ng||ys.all Nh)=true /\
  Uw (La ys) (kas_sort zs.length)=some q/\∀l,H l=none->Q (.ref l) (upd H l (.lst (q.toList.map fun i=>zs.getD i .non)))):=by
 intro pins s σ H xs us Q I r h
 obtain⟨t,p,zs,ys,q,rfl,hp,hr,h2,h64,hh,hq,k⟩:=h
 obtain⟨u,rfl,rx⟩:=Us r
 cases rx
 obtain⟨its,rv,pl⟩:=Vj I hp
 have hl:=rv.length
 have rows:=Zcr I hr rv
 have kind:∃o:Bool,∀A' E' h',(∀b o,s.heap.get? b=some o->h'.get? b=some o)->∀Q:SortKind->Shared->Prop,Q (tuples' o) {s with heap:=h'}->wpAny (model X.prog X.w) A' (keyKind' its.toArray) Q E' {s with heap:=h'}:=by
  rcases Bool.or_eq_true _ _▸hh with hh|hh
  ·refine⟨Value.type "str" != Value.type "tuple", fun A' E' h' e Q hQ=>?_⟩
   obtain⟨fs,k1,k2,k3⟩:=(rows.mono e).firstS hh
   exact kat_kind (s:={s with heap:=h'}) (T:=Value.type "str") k1 (by lia) (fun v hv=>by obtain⟨x,t,rfl⟩:=k2 v hv;exact Looks.of_pure rfl) (by rfl) hQ
  ·refine⟨Value.type "int" != Value.type "tuple", fun A' E' h' e Q hQ=>?_⟩
   obtain⟨fs,k1,k2,k3⟩:=(rows.mono e).firstI hh
   exact kat_kind (s:={s with heap:=h'}) (T:=Value.type "int") k1 (by lia) (fun v hv=>by obtain⟨x,t,rfl⟩:=k2 v hv;exact Looks.of_pure rfl) (by rfl) hQ
 obtain⟨o,kind⟩:=kind
 refine Zf1 (κ:=tuples' o) (q:=La ys) (p:=q) pl (by lia) (by lia) kind (fun A' h' e i j b C z c=>Zf3 (s:={s with heap:=h'}) (rows.mono e) z c) (by rw[<-hl];exact hq) fun hz=>?_
 obtain⟨n,he⟩:=sortedAll_at s.heap its (q.toList.map fun i=>its.getD i Value.none).toArray
 refine⟨.ref (s.heap.objs.size+1),_,I.laid (t':=s.toks) (o:=.lst (q.toList.map fun i=>zs.getD i .non)) (fun b o e=>sortedAll_old e) (Nat.le_succ _) ?_,rfl,k _ (I.hok.fresh (Nat.le_succ _))⟩
 refine⟨?_,(q.toList.map fun i=>its.getD i Value.none),n,Ma rv _,by simpa using he⟩
 rw[List.length_map,Array.length_toList,hz,sizeLine_eq]
 lia
def Ck:CallR X (.builtin "sorted") (fun xs H Q=>(∃(t:Bool) (p:Addr) (zs:List V),xs=[.ref p]/\S1 t X.K H p zs/\zs.length<2/\∀l,H l=none->Q (.ref l) (upd H l (.lst zs))) \/
  ∃(t:Bool) (p:Addr) (zs:List V) (ys:List (List V)) (q:Array Nat),xs=[.ref p]/\S1 t X.K H p zs/\RowsT H zs ys/\2<=zs.length/\zs.length<64/\(ys.all Ng||ys.all Nh)=true /\
  Uw (La ys) (kas_sort zs.length)=some q/\∀l,H l=none->Q (.ref l) (upd H l (.lst (q.toList.map fun i=>zs.getD i .non)))):=by
 intro pins s σ H xs us Q I r h
 rcases h with h|h
 ·obtain⟨t,p,zs,rfl,hp,h2,k⟩:=h
  obtain⟨u,rfl,rx⟩:=Us r
  cases rx
  obtain⟨its,rv,pl⟩:=Vj I hp
  have hl:=rv.length
  refine Zf2 pl (by lia) ?_
  obtain⟨n,he⟩:=sortedAll_at s.heap its its.toArray
  refine⟨.ref (s.heap.objs.size+1),_,I.laid (t':=s.toks) (o:=.lst zs) (fun b o e=>sortedAll_old e) (Nat.le_succ _) ?_,rfl,k _ (I.hok.fresh (Nat.le_succ _))⟩
  refine⟨?_,its,n,rv,by simpa using he⟩
  rw[sizeLine_eq]
  lia
 ·exact Es _ _ _ _ _ _ _ I r h
def Zcs:D->Option V
 |.int i=>some (.int i)
 |.str x=>some (.str x)
 |_=>none
def Bj:List D->Option (List V)
 |[]=>some []
 |d::r=>match Zcs d,Bj r with
  |some v,some vs=>some (v::vs)
  |_,_=>none
def S3:List D->Option (List (List V))
 |[]=>some []
 |.tup ds::r=>match Bj ds,S3 r with
  |some v,some vs=>some (v::vs)
  |_,_=>none
 |_::_=>none
def O8 {K:PySem.W.Frag}{H:Hp}{d:D}{v x:V}(e:Zcs d=some v)(r:Rep K H d x):x=v:=by
 unfold Zcs at e
 split at e
 ·cases e;exact rep_int.mp r
 ·cases e;exact rep_str.mp r
 ·cases e
theorem Rf {K:PySem.W.Frag}{H:Hp}:∀{ds:List D}{vs xs:List V},Bj ds=some vs->Reps K H ds xs->xs=vs
 |[],vs,xs,e,r=>by
  cases e
  exact reps_nil.mp r
 |d::ds,vs,xs,e,r=>by
  obtain⟨x,t,rfl,h1,h2⟩:=reps_cons.mp r
  unfold Bj at e
  split at e
  ·rename_i a b ea eb
   cases e
   rw[O8 ea h1,Rf eb h2]
  ·cases e
theorem S4 {K:PySem.W.Frag}{H:Hp}:∀{ds:List D}{ys:List (List V)}{xs:List V},S3 ds=some ys->Reps K H ds xs->RowsT H xs ys
 |[],ys,xs,e,r=>by
  cases e
  rw[reps_nil.mp r]
  exact .nil
 |d::ds,ys,xs,e,r=>by
  obtain⟨x,t,rfl,h1,h2⟩:=reps_cons.mp r
  cases d with
  |tup es=>
   unfold S3 at e
   split at e
   ·rename_i a b ea eb
    cases e
    obtain⟨p,us,rfl,hp,hr⟩:=rep_tup.mp h1
    have:=Rf ea hr
    subst this
    exact .cons ⟨p,rfl,hp⟩ (S4 eb h2)
   ·cases e
  |_=>cases e
def RowsT.mono {H H':Hp}{xs:List V}{ys:List (List V)}(e:Same H H')(r:RowsT H xs ys):RowsT H' xs ys:=Paired.mapP r fun _ _ q=>by
 obtain⟨a,h1,h2⟩:=q
 exact⟨a,h1,e _ _ h2⟩
theorem Mb {K:PySem.W.Frag}{H:Hp}{ds:List D}{zs:List V}(r:Reps K H ds zs):∀l:List Nat,Reps K H (l.map fun i=>ds.getD i .non) (l.map fun i=>zs.getD i .non)
 |[]=>Reps.nil
 |i::l=>Reps.cons (by
   by_cases h:i<ds.length
   ·obtain⟨x,e1,e2⟩:=r.get (List.getElem?_eq_getElem h)
    dsimp only
    rw[List.getD_eq_getElem?_getD,List.getD_eq_getElem?_getD,e1,List.getElem?_eq_getElem h]
    exact e2
   ·have h1:ds[i]?=none:=List.getElem?_eq_none_iff.mpr (by lia)
    have h2:zs[i]?=none:=r.none_of h1
    dsimp only
    rw[List.getD_eq_getElem?_getD,List.getD_eq_getElem?_getD,h1,h2]
    exact rep_non.mpr rfl) (Mb r l)
def Bk (ds:List D):M D:=match S3 ds with
 |some ys=>if 2<=ds.length/\ds.length<64/\(ys.all Ng||ys.all Nh)=true then(match Uw (La ys) (kas_sort ds.length) with
   |some p=>.ok (.lst (p.toList.map fun i=>ds.getD i .non))
   |none=>.bad) else .bad
 |none=>.bad
def Pm (ds:List D):M D:=if ds.length<2 then .ok (.lst ds) else Bk ds
def S5:List D->M D
 |[.lst ds]=>Pm ds
 |[.tup ds]=>Pm ds
 |_=>.bad
def O9 {t:Bool}{Hf H:Hp}{p:Addr}{zs:List V}{ds:List D}{Q:VK}(e:Same Hf H)(hp:S1 t X.K Hf p zs)(hr:Reps X.K Hf ds zs)(q:Po X.K E (rV X.K) Hf H (Bk ds) Q):
  ∃(t:Bool) (p':Addr) (zs:List V) (ys:List (List V)) (q:Array Nat),[V.ref p]=[V.ref p']/\S1 t X.K H p' zs/\RowsT H zs ys/\2<=zs.length/\zs.length<64/\(ys.all Ng||ys.all Nh)=true /\
  Uw (La ys) (kas_sort zs.length)=some q/\∀l,H l=none->Q (.ref l) (upd H l (.lst (q.toList.map fun i=>zs.getD i .non))):=by
 unfold Bk at q
 have hl:=hr.length
 split at q
 ·rename_i ys ey
  split at q
  ·rename_i hc
   split at q
   ·rename_i a ea
    exact⟨t,p,zs,ys,a,rfl,Kj e hp,(S4 ey hr).mono e,by lia,by lia,hc.2.2,by rw[<-hl];exact ea,fun l hl=>q _ _ _ (Gr.alloc e hl _) (Gr.lst e hl (Mb hr _))⟩
   ·exact q.elim
  ·exact q.elim
 ·exact q.elim
def Mc {t:Bool}{Hf H:Hp}{p:Addr}{zs:List V}{ds:List D}{Q:VK}(e:Same Hf H)(hp:S1 t X.K Hf p zs)(hr:Reps X.K Hf ds zs)(q:Po X.K E (rV X.K) Hf H (Pm ds) Q):
  (∃(t:Bool) (p':Addr) (zs:List V),[V.ref p]=[V.ref p']/\S1 t X.K H p' zs/\zs.length<2/\∀l,H l=none->Q (.ref l) (upd H l (.lst zs))) \/
  ∃(t:Bool) (p':Addr) (zs:List V) (ys:List (List V)) (q:Array Nat),[V.ref p]=[V.ref p']/\S1 t X.K H p' zs/\RowsT H zs ys/\2<=zs.length/\zs.length<64/\(ys.all Ng||ys.all Nh)=true /\
  Uw (La ys) (kas_sort zs.length)=some q/\∀l,H l=none->Q (.ref l) (upd H l (.lst (q.toList.map fun i=>zs.getD i .non))):=by
 unfold Pm at q
 split at q
 ·rename_i h
  have hl:=hr.length
  exact .inl ⟨t,p,zs,rfl,Kj e hp,by lia,fun l hl=>q _ _ _ (Gr.alloc e hl _) (Gr.lst e hl hr)⟩
 ·exact .inr (O9 e hp hr q)
def Zct:Vy X E (.builtin "sorted") S5:=by
 refine⟨_,Ck,fun Hf H xs ds Q e r q=>?_⟩
 unfold S5 at q
 split at q
 ·obtain⟨x,rfl,h⟩:=Kg r
  obtain⟨p,ys,rfl,hp,hr⟩:=rep_lst.mp h
  exact Mc (t:=false) e hp hr q
 ·obtain⟨x,rfl,h⟩:=Kg r
  obtain⟨p,ys,rfl,hp,hr⟩:=Qc h
  exact Mc (t:=true) e hp hr q
 ·exact q.elim
def Zf4 (K:PySem.W.Frag)(a:Addr)(cs:List V):Bool:=match K.lookup a with
 |some o=>(match o.cls,o.data with
  |.type n,.seq its _=>decide (n="tuple")&&decide (its.size<=1000)&&decide (its.toList.map Zey=cs.map some)&&cs.all Zbp
  |_,_=>false)
 |none=>false
theorem Rg:∀{cs:List V}{us:List Value},us.map Zey=cs.map some->cs.all Zbp=true->Vals cs us
 |[],[],_,_=>.nil
 |c::cs,u::us,e,f=>by
  rw[List.map_cons,List.map_cons] at e
  injection e with e1 e2
  rw[List.all_cons,Bool.and_eq_true] at f
  refine .cons ?_ (Rg e2 f.2)
  cases u<;>simp[Zey] at e1<;>subst e1<;>first|exact rfl|exact⟨_,rfl⟩
 |[],_::_,e,_=>by simp at e
 |_::_,[],e,_=>by simp at e
def F9 {K:PySem.W.Frag}{H:Hp}{a:Addr}{cs:List V}(h:Zf4 K a cs=true):SqT K H a cs/\cs.all Zbp=true:=by
 unfold Zf4 at h
 split at h
 ·rename_i o eo
  split at h
  ·rename_i n its m e1 e2
   rw[Bool.and_eq_true,Bool.and_eq_true,Bool.and_eq_true] at h
   obtain⟨⟨⟨h1,h2⟩,h3⟩,h4⟩:=h
   have h1:=of_decide_eq_true h1
   subst h1
   refine⟨.inr ⟨o,its,m,eo,e1,e2,?_,Rg (of_decide_eq_true h3) h4⟩,h4⟩
   have:=of_decide_eq_true h2
   rw[sizeLine_eq]
   lia
  ·cases h
 ·cases h
variable {e:Expr}{x:Str}{pos p2:Pos}{a:Addr}{cs:List V}{f:Zf->M D}
def Zjr {f:Zf->M D}{sd:Zf}{Hf H:Hp}{Q:Bool->Hp->Prop}(h:Po X.K E rQ Hf H (DL.tB f sd) Q):Po X.K E (rV X.K) Hf H (f sd) (fun v H'=>∃k,v=.bl k/\Q k H'):=
 Po.bind h fun d v Hf1 H1 _ g1 rv h1=>by
  unfold asB at h1
  split at h1
  ·exact⟨_,rep_bl.mp rv,Po.ret (R:=rQ) g1.sub h1 rfl⟩
  ·exact h1.elim
end
section
variable {q:Nat->Nat->Option Bool}{n:Nat}
theorem Md {α β:Type}{f:α->KasT β}:∀t:KasT α,Uw q (t.bind f)=(Uw q t).bind fun a=>Uw q (f a)
 |.ret _=>rfl
 |.ask i j k=>by
  have e1:∀{γ:Type} (k:Bool->KasT γ),Uw q (.ask i j k)=(q i j).bind fun b=>Uw q (k b):=fun k=>by
   rw[Uw]
   cases q i j<;>rfl
  have e2:(KasT.ask i j k).bind f=.ask i j fun b=>(k b).bind f:=rfl
  rw[e2,e1,e1]
  cases q i j with
  |none=>rfl
  |some b=>exact Md (k b)
def Rn (q:Nat->Nat->Option Bool){α:Type}(t:KasT α)(P:α->Prop):Prop:=∃a,Uw q t=some a/\P a
theorem Rn.bind {α β:Type}{t:KasT α}{f:α->KasT β}{P:α->Prop}{Q:β->Prop}(h:Rn q t P)(k:∀a,P a->Rn q (f a) Q):Rn q (t.bind f) Q:=by
 obtain⟨a,e,p⟩:=h
 obtain⟨b,e2,p2⟩:=k a p
 exact⟨b,by rw[Md,e];exact e2,p2⟩
theorem Rn.ret {α:Type}{a:α}{P:α->Prop}(h:P a):Rn q (.ret a) P:=⟨a,rfl,h⟩
def Gp (n:Nat)(p:Array Nat):Prop:=p.Perm (List.toArray (List.range n))
def Gp.at {p:Array Nat}(h:Gp n p)(n0:0<n)(i:Nat):p.getD i 0<n:=by
 rw[Array.getD_eq_getD_getElem?]
 cases e:p[i]? with
 |none=>exact n0
 |some x=>
  have:=h.mem_iff.mp (Array.mem_of_getElem? e)
  simpa using this
def Gp.rev {p:Array Nat}(h:Gp n p)(i j:Nat):Gp n (kas_rev p i j):=(mirror_perm _ _ _ _).trans h
section
variable (n0:0<n) (ht:∀i j,i<n->j<n->∃b,q i j=some b)
theorem Rn.ask {α:Type}{i j:Nat}{k:Bool->KasT α}{P:α->Prop}(hi:i<n)(hj:j<n)(ht:∀i j,i<n->j<n->∃b,q i j=some b)(h:∀b,Rn q (k b) P):Rn q (.ask i j k) P:=by
 obtain⟨b,e⟩:=ht i j hi hj
 obtain⟨a,e2,p⟩:=h b
 refine⟨a,?_,p⟩
 unfold Uw
 rw[e]
 exact e2
include n0 ht
theorem Et {p:Array Nat}(h:Gp n p):∀f k,Rn q (kas_asc p f k) fun _=>True
 |0,k=>.ret trivial
 |f+1,k=>by
  refine .ask (h.at n0 _) (h.at n0 _) ht fun c=>?_
  cases c
  ·exact Et h f (k+1)
  ·exact .ret trivial
theorem R8:∀f (p:Array Nat) k r,Gp n p->Rn q (kas_desc f p k r) fun a=>Gp n a.1
 |0,p,k,r,h=>.ret h
 |f+1,p,k,r,h=>by
  refine .ask (h.at n0 _) (h.at n0 _) ht fun c=>?_
  cases c
  ·refine .ask (h.at n0 _) (h.at n0 _) ht fun d=>?_
   cases d
   ·exact R8 f p _ _ h
   ·exact .ret h
  ·show Rn q (if r > 0 then _ else _) _
   split
   ·exact R8 f _ _ _ (h.rev _ _)
   ·exact R8 f _ _ _ h
def Ha {p:Array Nat}(h:Gp n p)(k m:Nat):Rn q (kas_tail3 k m p) fun a=>Gp n a.2:=(Et n0 ht (h.rev _ _) _ _).bind fun _ _=>.ret (h.rev _ _)
def Hc {p:Array Nat}(h:Gp n p)(k m:Nat):Rn q (kas_descPart k m p) fun a=>Gp n a.2:=(R8 n0 ht _ _ _ _ h).bind fun r hr=>by
 split
 ·exact Ha n0 ht (Gp.rev hr _ _) _ _
 ·exact Ha n0 ht hr _ _
def Zcu {p:Array Nat}(h:Gp n p)(m:Nat):Rn q (kas_count m p) fun a=>Gp n a.2:=(Et n0 ht h _ _).bind fun k _=>by
 split
 ·exact .ret h
 ·split
  ·refine .ask (h.at n0 _) (h.at n0 _) ht fun c=>?_
   cases c
   ·exact Hc n0 ht (h.rev _ _) _ _
   ·exact .ret h
  ·exact Hc n0 ht h _ _
theorem S6 {p:Array Nat}(h:Gp n p)(k:Nat):∀f l r,Rn q (kas_place p k f l r) fun _=>True
 |0,l,r=>.ret trivial
 |f+1,l,r=>by
  unfold kas_place
  split
  ·exact .ret trivial
  ·refine .ask (h.at n0 _) (h.at n0 _) ht fun c=>?_
   cases c
   ·exact S6 h k f _ _
   ·exact S6 h k f _ _
theorem Zcv:∀f (p:Array Nat) k,Gp n p->Rn q (kas_bin f p k) fun p=>Gp n p
 |0,p,k,h=>.ret h
 |f+1,p,k,h=>(S6 n0 ht h k _ _ _).bind fun l _=>Zcv f _ _ ((bubble_perm _ _ _).trans h)
def Zf5:Rn q (kas_sort n) fun p=>Gp n p:=(Zcu n0 ht (Array.Perm.refl _) _).bind fun r hr=>by
 split
 ·exact Zcv n0 ht _ _ _ hr
 ·exact .ret hr
end
end
def Eu {ds:List D}{ys:List (List V)}(hr:S3 ds=some ys)(hl:ds.length<64)(hh:(ys.all Ng||ys.all Nh)=true)(hy:ys.length=ds.length)(hc:∀x∈ys,∀y∈ys,x.length=y.length/\∃b,Zf0 x y=some b):∃es:List D,es.Perm ds/\S5 [.lst ds]=.ok (.lst es):=by
 show ∃es:List D,es.Perm ds/\Pm ds=.ok (.lst es)
 unfold Pm
 by_cases h2:ds.length<2
 ·exact⟨ds,List.Perm.refl _,if_pos h2⟩
 ·rw[if_neg h2]
  obtain⟨p,e,hp⟩:=Zf5 (q:=La ys) (n:=ds.length) (by lia) fun i j hi hj=>by
   unfold La
   rw[List.getElem?_eq_getElem (by lia),List.getElem?_eq_getElem (by lia)]
   obtain⟨e,b,h⟩:=hc ys[i] (List.getElem_mem _) ys[j] (List.getElem_mem _)
   exact⟨b,by dsimp only;rw[if_pos e,h]⟩
  refine⟨p.toList.map fun i=>ds.getD i .non,?_,?_⟩
  ·have h1:p.toList.Perm (List.range ds.length):=by
    have:=Array.perm_iff_toList_perm.mp hp
    simpa using this
   have h3:=h1.map fun i=>ds.getD i D.non
   refine h3.trans (List.Perm.of_eq ?_)
   apply List.ext_getElem?
   intro i
   rw[List.getElem?_map]
   by_cases hi:i<ds.length
   ·rw[List.getElem?_range hi,List.getElem?_eq_getElem hi]
    simp[hi]
   ·rw[List.getElem?_eq_none (by rw[List.length_range];lia),List.getElem?_eq_none (by lia)]
    rfl
  ·unfold Bk
   rw[hr]
   dsimp only
   rw[if_pos ⟨by lia,hl,hh⟩,e]
end DL
namespace DL
open PySem PySem.Spec PyProof.Rows L2
def PoX (K:PySem.W.Frag)(E:XK)(H0:Hp)(B:Addr->Prop)(σ:L2.St)(Hf:Hp){α β:Type}(R:Hp->Hp->α->β->Prop)(r:M (α×Zf))(Q:β->Hp->Prop):Prop:=match r with
 |.ok (a,sd')=>∀b Hf' H',Same Hf Hf'->SR K H0 B Hf' sd' σ H'->R Hf' H' a b->Q b H'
 |.ex x=>∀c dx Hf' H',Same Hf Hf'->Fin' H0 B Hf' H'->Zfk K Hf' H' x c dx->E c dx H'
 |.bad=>False
def Zjs (X:Cx)(E:XK)(e:Expr)(f:Zf->M (D×Zf)):Prop:=
 ∃t:TE,PE X e t/\∀(H0:Hp) (B:Addr->Prop) (Hf:Hp) (sd:Zf) (σ:L2.St) (H:Hp) (Q:VK),SR X.K H0 B Hf sd σ H->PoX X.K E H0 B σ Hf (rV X.K) (f sd) Q->t σ H Q
def Zcw (X:Cx)(E:XK)(es:List Expr)(f:Zf->M (List D×Zf)):Prop:=
 ∃t:TA,PA X es t/\∀(H0:Hp) (B:Addr->Prop) (Hf:Hp) (sd:Zf) (σ:L2.St) (H:Hp) (Q:List V->Hp->Prop),SR X.K H0 B Hf sd σ H->PoX X.K E H0 B σ Hf (rA X.K) (f sd) Q->t σ H Q
section
variable {K:PySem.W.Frag}{E:XK}{H0:Hp}{B:Addr->Prop}{σ:L2.St}{Hf H Hf1:Hp}{α β γ δ:Type}{R:Hp->Hp->α->β->Prop}{T:Hp->Hp->γ->δ->Prop}
def PoX.weak {r:M (α×Zf)}{Q:β->Hp->Prop}(g:Same Hf Hf1)(h:PoX K E H0 B σ Hf R r Q):PoX K E H0 B σ Hf1 R r Q:=by
 cases r with
 |ok a=>exact fun b Hf' H' e q=>h b Hf' H' (g.trans e) q
 |ex x=>exact fun c dx Hf' H' e q=>h c dx Hf' H' (g.trans e) q
 |bad=>exact h
theorem PoX.bind {sd:Zf}{r:M γ}{k:γ->M (α×Zf)}{Q:β->Hp->Prop}{Q1:δ->Hp->Prop}(sr:SR K H0 B Hf sd σ H)(h:PoX K E H0 B σ Hf R (r.bind k) Q)(s:∀a b Hf1 H1,r=.ok a->Gr Hf H Hf1 H1->SR K H0 B Hf1 sd σ H1->T Hf1 H1 a b->PoX K E H0 B σ Hf1 R (k a) Q->Q1 b H1):Po K E T Hf H r Q1:=by
 cases r with
 |ok a=>exact fun b Hf' H' g q=>s a b Hf' H' rfl g (sr.gr g) q (PoX.weak g.fz h)
 |ex x=>exact fun c dx Hf' H' g q=>h c dx Hf' H' g.fz (sr.gr g).fin q
 |bad=>exact h
def PoX.bindX {r:M (γ×Zf)}{k:γ×Zf->M (α×Zf)}{Q:β->Hp->Prop}{Q1:δ->Hp->Prop}(h:PoX K E H0 B σ Hf R (r.bind k) Q)(s:∀a sd' b Hf1 H1,r=.ok (a,sd')->Same Hf Hf1->SR K H0 B Hf1 sd' σ H1->T Hf1 H1 a b->PoX K E H0 B σ Hf1 R (k (a,sd')) Q->Q1 b H1):PoX K E H0 B σ Hf T r Q1:=by
 cases r with
 |ok a=>exact fun b Hf' H' e sr q=>s a.1 a.2 b Hf' H' rfl e sr q (PoX.weak e h)
 |ex x=>exact h
 |bad=>exact h
def PoX.bindS {r:M (γ×Zf)}{k:γ×Zf->M O}{D:Ends}{Q1:δ->Hp->Prop}(h:PoS K E H0 B Hf (r.bind k) D)(s:∀a sd' b Hf1 H1,r=.ok (a,sd')->Same Hf Hf1->SR K H0 B Hf1 sd' σ H1->T Hf1 H1 a b->PoS K E H0 B Hf1 (k (a,sd')) D->Q1 b H1):PoX K E H0 B σ Hf T r Q1:=by
 cases r with
 |ok a=>exact fun b Hf' H' e sr q=>s a.1 a.2 b Hf' H' rfl e sr q (PoS.weak e h)
 |ex x=>exact h
 |bad=>exact h
end
section
variable {X:Cx}{E:XK}{pos:Pos}{a b:Expr}
def Cn (i:Nat)(sd:Zf):M (D×Zf):=match sd[i]? with
 |some (some (.ow ds))=>(match ds[ds.length-1]? with
  |some d=>.ok (d,sd.set i (some (.ow ds.dropLast)))
  |none=>.bad)
 |_=>.bad
def Lb {K:PySem.W.Frag}{H:Hp}{ds:List D}{xs:List V}(r:Reps K H ds xs):Reps K H ds.dropLast xs.dropLast:=by
 rw[List.dropLast_eq_take,List.dropLast_eq_take,r.length]
 exact r.take _
def Zcx (i:Nat){x:Str}{p1 p2 p3:Pos}(hi:X.N[i]?=some x:=by rfl)(hv:Rz X.env.scope x:=by trivial)
  (hd:(x==("__debug__":Str))=false:=by decide) (hcd:(x==("__classdict__":Str))=false:=by decide)
  (hbase:attributeBase (.Name x p1) "pop" X.env (eval (.Name x p1) X.env)=eval (.Name x p1) X.env:=by rfl) (hline:(p2.endLine==p3.line)=true:=by rfl):
  Zjs X E (.Call (.Attribute (.Name x p1) "pop" p2) [] [] p3) (Cn i):=by
 refine⟨_,Zbr PySem.F.plainAttrs_list PySem.F.slot_list_pop PySem.F.type_list_pop Zi3 (Z9 hi hv hd hcd) hbase hline,fun H0 B Hf sd σ H Q sr h=>?_⟩
 unfold Cn at h
 split at h
 ·rename_i ds ei
  obtain⟨p,z1,z2,z3,xs,z4,z5⟩:=sr.ow i _ ei rfl
  split at h
  ·rename_i d ed
   obtain⟨v,ev,rv⟩:=z5.get ed
   refine⟨_,z1,.inl ⟨rfl,xs,SqL.of z4⟩,p,xs,v,rfl,rfl,z4,by rw[<-z5.length];exact ev,?_⟩
   exact h v Hf _ (Same.refl _) (sr.change ei rfl z1 rfl ⟨_,Zo,Lb z5⟩) rv
  ·exact h.elim
 ·exact h.elim
def Pn (f:Zf->M (D×Zf))(sd:Zf):M (List D×Zf):=(f sd).bind fun r=>.ok ([r.1],r.2)
def Yl (fa:Zf->M D)(fr:Zf->M (List D×Zf))(sd:Zf):M (List D×Zf):=(fa sd).bind fun d=>(fr sd).bind fun r=>.ok (d::r.1,r.2)
def Co {f:Zf->M (D×Zf)}(h:Zjs X E a f)(hs:starEach [a] X.env=(false,eval a X.env)::starEach [] X.env:=by rfl):Zcw X E [a] (Pn f):=by
 obtain⟨t,p,q⟩:=h
 refine⟨_,Qh p Xa hs,fun H0 B Hf sd σ H Q sr h=>?_⟩
 refine q H0 B Hf sd σ H _ sr (PoX.bindX h fun d sd' v Hf1 H1 _ e1 sr1 rv h1=>?_)
 exact h1 [v] Hf1 H1 (Same.refl _) sr1 (Reps.cons rv Reps.nil)
def Xz {es:List Expr}{fa:Zf->M D}{fr:Zf->M (List D×Zf)}(ha:Y0 X E a fa)(hr:Zcw X E es fr)(hs:starEach (a::es) X.env=(false,eval a X.env)::starEach es X.env:=by rfl):Zcw X E (a::es) (Yl fa fr):=by
 obtain⟨ta,pa,qa⟩:=ha
 obtain⟨tr,pr,qr⟩:=hr
 refine⟨_,Qh pa pr hs,fun H0 B Hf sd σ H Q sr h=>?_⟩
 refine qa H0 B Hf sd σ H _ sr (PoX.bind sr h fun d v Hf1 H1 _ g1 sr1 rv h1=>?_)
 refine qr H0 B Hf1 sd σ H1 _ sr1 (PoX.bindX h1 fun ds sd' vs Hf2 H2 _ e2 sr2 rs h2=>?_)
 exact h2 (v::vs) Hf2 H2 (Same.refl _) sr2 (Reps.cons (Rep.mono e2 rv) rs)
def Me (F:List D->M S)(fs:Zf->M (List D×Zf))(sd:Zf):M (D×Zf):=(fs sd).bind fun r=>match F r.1 with
 |.ok s=>s.toD.bind fun d=>.ok (d,r.2)
 |_=>.bad
def Zf6 {k:Nat}{f:Addr}{fd:FuncData}{ps:List Str}{F:List D->M S}{x:Str}{p:Pos}{es:List Expr}{fs:Zf->M (List D×Zf)}(G:FnOk X.prog X.w X.K X.mg X.base Yd k f fd ps (Sr X.K F))(hr:Room k X.A)(hm:X.mg x=some (.ref f))(hk:PySem.W.keepIn X.K (.ref f)=true)(hb:Binds X.K fd ps [])(ha:Zcw X E (a::es) fs)(hg:Gl X x:=by rfl) (hdb:(x==("__debug__":Str))=false:=by decide) (he:starEach (a::es) X.env=(false,eval a X.env)::starEach es X.env:=by rfl) (hpl:(backTo pos (starEach es X.env)).any (·.1)=false:=by rfl):
  Zjs X E (.Call (.Name x p) (a::es) [] pos) (Me F fs):=by
 obtain⟨t,pt,qt⟩:=ha
 refine⟨_,Kd (dvs:=[]) (E:=E0) G hr hg hm hk hb .nil Jh pt hdb he hpl,fun H0 B Hf sd σ H Q sr h=>?_⟩
 refine qt H0 B Hf sd σ H _ sr (PoX.bindX h fun ds sd' vs Hf1 H1 _ e1 sr1 rs h1=>?_)
 dsimp only at h1
 split at h1
 ·rename_i s e
  refine⟨Hf1,ds,s,sr1.sub,by rw[List.append_nil];exact rs,e,fun v Hf' H' g2 rv=>?_⟩
  cases s with
  |im d=>exact h1 v Hf' H' g2.fz (sr1.gr g2) rv
  |ow es=>
   obtain⟨p,rfl,w1,w2,xs,w3,w4⟩:=rv
   have g3:Gr Hf1 H1 (upd Hf' p (.lst xs)) H':=by
    refine⟨g2.fz.trans (Qa w2 _),fun b u q=>?_,g2.all,fun a h1 h2=>?_⟩
    ·by_cases hb:b=p
     ·subst hb;rw[Zo] at q;rw[w3];exact q
     ·rw[Zm hb] at q;exact g2.sub b u q
    ·have:a≠p:=fun z=>h1.nn (z▸w1)
     rw[Zm this];exact g2.ban a h1 h2
   exact h1 _ (upd Hf' p (.lst xs)) H' g3.fz (sr1.gr g3) (rep_lst.mpr ⟨p,xs,rfl,SqL.of Zo,w4.mono (Qa w2 _)⟩)
  |od kvs=>exact h1.elim
  |dk kvs=>exact h1.elim
  |xc x=>exact h1.elim
  |fn x=>exact h1.elim
  |ob a c r=>exact h1.elim
  |fl a g q=>exact h1.elim
 ·exact h1.elim
def Zmc (g:D->D->M D)(fa:Zf->M D)(fb:Zf->M (D×Zf))(sd:Zf):M (D×Zf):=(fa sd).bind fun x=>(fb sd).bind fun y=>(g x y.1).bind fun z=>.ok (z,y.2)
def Zht {op:Operator}{g:D->D->M D}{fa:Zf->M D}{fb:Zf->M (D×Zf)}(ho:N9 X E (binaryOp op) g)(ha:Y0 X E a fa)(hb:Zjs X E b fb):Zjs X E (.BinOp a op b pos) (Zmc g fa fb):=by
 obtain⟨r,hr,qr⟩:=ho
 obtain⟨ta,pa,qa⟩:=ha
 obtain⟨tb,pb,qb⟩:=hb
 refine⟨_,Zbd hr pa pb,fun H0 B Hf sd σ H Q sr h=>?_⟩
 refine qa H0 B Hf sd σ H _ sr (PoX.bind sr h fun dx x Hf1 H1 _ g1 sr1 rx h1=>?_)
 refine qb H0 B Hf1 sd σ H1 _ sr1 (PoX.bindX h1 fun dy sd' y Hf2 H2 _ e2 sr2 ry h2=>?_)
 refine qr Hf2 H2 x y dx dy Q sr2.sub (Rep.mono e2 rx) ry (PoX.bind sr2 h2 fun d v Hf3 H3 _ g3 sr3 rv h3=>?_)
 exact h3 v Hf3 H3 (Same.refl _) sr3 rv
def Cp (i:Nat)(f:Zf->M (D×Zf))(sd:Zf):M O:=(f sd).bind fun r=>.ok (.nx (r.2.set i (some (.im r.1))))
def He (i:Nat){x:Str}{e:Expr}{f:Zf->M (D×Zf)}{pos':Pos}(hN:X.N.Nodup)(h:Zjs X E e f)(hi:X.N[i]?=some x:=by rfl)(hx:Za8 X.env.scope x:=by trivial)(hs:swapsWith e (some (.Name x pos')) pos.line X.env=pure false:=by rfl)(hf:X.fn x=true\/X.env.scope.names.lookup x=some .local:=by first|exact .inl rfl|exact .inr rfl|assumption):
  N8 X E (.Assign [.Name x pos'] e pos) (Cp i f):=by
 obtain⟨t,p,q⟩:=h
 refine⟨_,Vr hN hi hx p hs hf,fun H0 B Hf sd σ H D sr h=>?_⟩
 refine q H0 B Hf sd σ H _ sr (PoX.bindS h fun d sd' v Hf1 H1 _ e1 sr1 rv h1=>?_)
 exact h1 _ Hf1 H1 (Same.refl _) (sr1.set_im i rv)
end
def Pp (gt:D->Zf->M Zf)(fc:Zf->M Bool)(fe:Zf->M D)(sd0:Zf):List D->M (List D)
 |[]=>.ok []
 |d::ds=>match gt d sd0 with
  |.ok sd1=>match fc sd1 with
   |.ok true=>(match fe sd1 with
    |.ok e=>match Pp gt fc fe sd0 ds with
     |.ok es=>.ok (e::es)
     |_=>.bad
    |_=>.bad)
   |.ok false=>Pp gt fc fe sd0 ds
   |_=>.bad
  |_=>.bad
def Vk (fi:Zf->M (List D))(n0:Nat)(caps:List Nat)(gt:D->Zf->M Zf)(fc:Zf->M Bool)(fe:Zf->M D)(sd:Zf):M (List D):=(fi sd).bind fun ds=>if few ds then Pp gt fc fe (V5 n0 caps sd) ds else .bad
def Ru {prog:Program}{w:World}{A:Around}{R:Result->Shared->Prop}{s:Shared}{elt target iter cnd:Expr}{scope:Scope}{pos:Pos}{it acc:Value}{env:Env}(I:Nat->Shared->Prop)
  (turn:∀n s,I n s->wpAny (model prog w) A (pyNext it) (fun r s₁=>match r with
   |none=>R (.ok .next) s₁
   |some v=>wpAny (model prog w) A (letOwnedTupleGo target it v) (fun _ s₂=>wpAny (model prog w) A (assign target env v) (fun _ s₃=>wpAny (model prog w) A (isTrue cnd env (eval cnd env)) (fun k s₃'=>if k=true then
     wpAny (model prog w) A (eval elt env) (fun x s₄=>wpAny (model prog w) A (call (.builtin "list.append") [acc,x]) (fun _ s₅=>∃m,m<n/\I m s₅) (fun _ _=>False) s₄) (fun _ _=>False) s₃' else ∃m,m<n/\I m s₃') (fun _ _=>False) s₃) (fun _ _=>False) s₂) (fun _ _=>False) s₁) (fun _ _=>False) s)
  (n:Nat) (h:I n s):
  codeAny (model prog w) A (.compLoop (.ListComp elt [⟨target,iter,[cnd],0⟩] scope pos) 0 it acc env) R s:=by
 refine codeAny_loop rfl I (fun n s hI=>?_) n h
 change wpAny _ A ((compTurn (.ListComp elt [⟨target,iter,[cnd],0⟩] scope pos) 0 it acc env).onRaise (fun x=>do noteFrame x env;theTreesLotGoes x)) _ _ s
 refine wpAny_noted ?_
 rw[compTurn_list]
 refine wpAny_bind (wpAny_standAt (wpAny_bind (wpAny_mono (turn n s hI) (fun r s₁ h₁=>?_) fun _ _ h'=>h'.elim)))
 cases r with
 |none=>exact wpAny_pure h₁
 |some v=>
  refine wpAny_bind (wpAny_mono h₁ (fun _ s₂ h₂=>wpAny_bind (wpAny_mono h₂ (fun _ s₃ h₃=>?_) fun _ _ h'=>h'.elim)) fun _ _ h'=>h'.elim)
  refine wpAny_bind (wpAny_tests_one (wpAny_mono h₃ (fun k s₄ h₄=>?_) fun _ _ h'=>h'.elim))
  cases k with
  |true=>
   rw[if_pos rfl] at h₄
   simp only[if_true]
   exact wpAny_bind (wpAny_bind (wpAny_mono h₄ (fun x s₄ h₄=>wpAny_bind (wpAny_mono h₄ (fun _ s₅ h₅=>wpAny_pure (wpAny_pure ⟨rfl,h₅⟩)) fun _ _ h'=>h'.elim)) fun _ _ h'=>h'.elim))
  |false=>
   rw[if_neg (by decide)] at h₄
   simp only[Bool.false_eq_true,if_false]
   exact wpAny_pure ⟨rfl,h₄⟩
def Ev {X:Cx}{E:XK}{pos:Pos}{tg elt iter cnd:Expr}{scope:Scope}{Nc:List Str}{n0:Nat}{caps:List Nat}{cl:List (Str×Addr)}{fi:Zf->M (List D)}{gt:D->Zf->M Zf}{fe:Zf->M D}{fc:Zf->M Bool}(hc:X.calm=true)(hclos:closureFor scope X.env=pure cl)(cap:CapOk X Nc n0 caps scope cl)(hkind:scope.kind=.function)(hcell:∀y∈scope.names,y.2≠.cell)(hnames:∀y∈scope.names,y.2=.local->scope.names.lookup y.1=some .local)(hk:Zjk n0 gt)(hi:Zhr X E tg iter fi)(hg:∀s3 H3 C ex,Zhq (Ud X Nc scope cl s3 H3 C ex) tg gt)(hcd:∀s3 H3 C ex,Lz (Ud X Nc scope cl s3 H3 C ex) E0 cnd fc)(he:∀s3 H3 C ex,Y0 (Ud X Nc scope cl s3 H3 C ex) E0 elt fe)(hs:∀x,foldedSetIterable iter X.env x=pure x:=by intro _;rfl):
  Zfs X E (.ListComp elt [⟨tg,iter,[cnd],0⟩] scope pos) (Vk fi n0 caps gt fc fe):=by
 refine⟨fun σ H Q=>∃H0 B Hf sd,SR X.K H0 B Hf sd σ H/\PoF X.K E Hf H (Vk fi n0 caps gt fc fe sd) Q,?_,fun H0 B Hf sd σ H Q sr h=>⟨H0,B,Hf,sd,sr,h⟩⟩
 rintro pins s σ H Q I ⟨H0,B,Hf,sd,sr,h⟩
 obtain⟨wi,pw,qw⟩:=hi
 rw[eval_ListComp]
 refine wpAny_comprehension_free (use:=none) rfl hs hclos hkind hnames ?_
 have step:=pw pins s σ H (fun J H2=>∃ds Hf2,Gr Hf H Hf2 H2/\Rs X.K Hf2 H2 ds J/\PoF X.K E Hf2 H2 (if few ds then Pp gt fc fe (V5 n0 caps sd) ds else .bad) Q) I
  (qw H0 B Hf sd σ H _ sr (PoF.bind h fun ds J Hf2 H2 _ g2 jok h2=>⟨ds,Hf2,g2,jok,h2⟩))
 refine Yj step fun v s1 h1=>Yj h1 fun itv s2 h2=>?_
 obtain⟨it,fp,tn,J,H2,rfl,I2,T,Za3,f2,ds,Hf2,g2,jok,hq⟩:=h2
 have sr2:=sr.gr g2
 split at hq
 case isFalse=>exact hq.elim
 case isTrue hfew=>
 have fresh:H2 s2.heap.objs.size=none:=I2.hok.fresh (Nat.le_refl _)
 have holdf:∀b∈fp,∃o,s2.heap.get? b=some o:=fun b hb=>let ⟨o,e,_⟩:=T.obj 0 _ Za3 b hb;⟨o,e⟩
 refine wpAny_newObj_type (wpAny_newFunctionEnv hcell (by intro y hy;simp at hy) (fun h₁ hns₁ hsb₁=>?_) hkind)
 have hC:(s2.heap.push Qz).objs.size=s2.heap.objs.size+1:=Heap.size_push _ _
 have hns:h₁.Ns (s2.heap.objs.size+1) (fun x=>([]:List (Str×Value)).reverse.lookup x):=hC▸hns₁
 have hsb:Heap.SameBut (s2.heap.objs.size+1) ((s2.heap.push Qz).push {cls:=.type "dict", data:=.dict #[]}) h₁:=hC▸hsb₁
 have hold1:∀b o,s2.heap.get? b=some o->h₁.get? b=some o:=fun b o e=>by
  have hb:b<s2.heap.objs.size:=Heap.lt_size e
  exact(hsb.2 b (Nat.ne_of_lt (Nat.lt_succ_of_lt hb))).trans (Heap.get?_push_of_some _ (Heap.get?_push_of_some _ e))
 have hD:h₁.get? s2.heap.objs.size=some Qz:=(hsb.2 _ (Nat.ne_of_lt (Nat.lt_succ_self _))).trans (Heap.get?_push_of_some _ (Heap.get?_push_size _ rfl))
 have J0:=Ce I2 f2 holdf hkind cap (tk:=s2.toks+([]:List (Str×Value)).length) hns hold1 hD
 have hg:=hg {s2 with heap:=s2.heap.push Qz} (upd H2 s2.heap.objs.size (.lst [])) (s2.heap.objs.size+1) fp
 have hcd:=hcd {s2 with heap:=s2.heap.push Qz} (upd H2 s2.heap.objs.size (.lst [])) (s2.heap.objs.size+1) fp
 have he:=he {s2 with heap:=s2.heap.push Qz} (upd H2 s2.heap.objs.size (.lst [])) (s2.heap.objs.size+1) fp
 generalize hXc:Ud X Nc scope cl {s2 with heap:=s2.heap.push Qz} (upd H2 s2.heap.objs.size (.lst [])) (s2.heap.objs.size+1) fp=Xc at J0 hg hcd he
 have eP:Xc.prog=X.prog:=by subst hXc;rfl
 have eW:Xc.w=X.w:=by subst hXc;rfl
 have eK:Xc.K=X.K:=by subst hXc;rfl
 have eA:Xc.A=X.A:=by subst hXc;rfl
 have eX:Xc.xe=fun _ _=>False:=by subst hXc;rfl
 have eE:Xc.env=compEnvC scope cl (s2.heap.objs.size+1) X.env:=by subst hXc;rfl
 have eC:Xc.calm=true:=by subst hXc;exact hc
 have fpc:∀{H':Hp},(∀b∈fp,H' b=none)->∀b∈fp,Rm Xc [] H' b:=fun {H'} hn b hb=>by
  subst hXc
  obtain⟨f0,f1,f2',f3,f4,f5⟩:=f2 b hb
  obtain⟨o,eo⟩:=holdf b hb
  refine⟨hn b hb,Nat.ne_of_lt (Nat.lt_succ_of_lt (Heap.lt_size eo)),fun hz=>?_,.inl hb,fun x c e=>f4 x c (cap.sub x c e),fun p hp=>absurd (show p∈([]:List (Addr×Obj)) from hp) (by simp)⟩
  rcases List.mem_cons.mp (I2.stkSub b hz) with e|hz
  ·exact f1 e
  ·exact f2' hz
 have nfp:∀b∈fp,b≠s2.heap.objs.size:=fun b hb=>by
  obtain⟨o,eo⟩:=holdf b hb
  exact Nat.ne_of_lt (Heap.lt_size eo)
 obtain⟨tg',pg,qg⟩:=hg
 obtain⟨tcn,pcn,qcn⟩:=hcd
 obtain⟨te,pe,qe⟩:=he
 have loop:∀s₃:Shared,s₃={s2 with heap:=h₁,toks:=s2.toks+([]:List (Str×Value)).length} ->
   codeAny (model X.prog X.w) X.A (.compLoop (.ListComp elt [⟨tg,iter,[cnd],0⟩] scope pos) 0 (.ref it) (.ref s2.heap.objs.size) (compEnvC scope cl (s2.heap.objs.size+1) X.env))
    (compPost (model X.prog X.w) X.A X.xe none (EP X pins σ Q) (.ref s2.heap.objs.size) (s2.heap.objs.size+1)) s₃:=by
  rintro s₃ rfl
  refine Ru (fun n s'=>∃i vs es H' Hf' σ',n=ds.length-i/\i<=ds.length/\Inv Xc [] σ' H' s'/\tn i s'.heap/\(∀b∈fp,H' b=none) /\
   H' s2.heap.objs.size=some (.lst vs)/\Hf' s2.heap.objs.size=none/\Gr Hf2 H2 Hf' H'/\Reps X.K Hf' es vs/\vs.length<=i /\
   (V5 n0 caps sd).length=σ'.length/\(∀(j:Nat) (d:D),(V5 n0 caps sd)[j]?=some (some (.im d))->∃v,σ'[j]?=some (some v)/\Rep X.K Hf' d v) /\
   PoF X.K E Hf2 H2 ((Pp gt fc fe (V5 n0 caps sd) (ds.drop i)).bind fun fs=>.ok (es++fs)) Q) ?_ ds.length ?_
  ·rintro n s' ⟨i,vs,es,H',Hf',σ',rfl,hil,J1,st1,fr1,hd1,hf1,g1,rs1,hl1,hlen1,him1,hq1⟩
   have jj:=jok i Hf' H' g1.fz g1.sub
   cases q:ds[i]? with
   |none=>
    rw[q] at jj
    have tdone:=T.done Xc eP eW eK eC i [] s' _ H' (fun _ _=>False) J1 (fpc fr1) st1 jj
    rw[eA] at tdone
    refine wpAny_mono tdone (fun r s4 hr=>?_) fun _ _ z=>z
    obtain⟨rfl,J4⟩:=hr
    rw[List.drop_eq_nil_of_le (List.getElem?_eq_none_iff.mp q)] at hq1
    subst hXc
    obtain⟨m,hn4,_⟩:=J4.loc
    refine⟨m,hn4,fun h' sb=>?_⟩
    refine⟨.ref s2.heap.objs.size,H',L6 I2 f2 J4 sb,rfl,?_⟩
    have hq2:PoF X.K E Hf2 H2 (.ok es) Q:=by
     have:es++([]:List D)=es:=List.append_nil es
     rw[<-this];exact hq1
    exact hq2 _ vs Hf' H' g1 fresh hf1 hd1 rs1
   |some d=>
    rw[q] at jj
    obtain⟨go,yl⟩:=jj
    have hlt:i<ds.length:=(List.getElem?_eq_some_iff.mp q).1
    have hdr:ds.drop i=d::ds.drop (i+1):=by
     rw[List.drop_eq_getElem_cons hlt]
     congr 1
     exact(List.getElem?_eq_some_iff.mp q).2
    obtain⟨sd1,eg,hq2⟩:∃sd1,gt d (V5 n0 caps sd)=.ok sd1/\((fc sd1=.ok true/\∃e1,fe sd1=.ok e1/\PoF X.K E Hf2 H2 ((Pp gt fc fe (V5 n0 caps sd) (ds.drop (i+1))).bind fun fs=>.ok ((es++[e1])++fs)) Q) \/
      (fc sd1=.ok false/\PoF X.K E Hf2 H2 ((Pp gt fc fe (V5 n0 caps sd) (ds.drop (i+1))).bind fun fs=>.ok (es++fs)) Q)):=by
     rw[hdr] at hq1
     unfold Pp at hq1
     split at hq1
     ·rename_i sd1 eg
      refine⟨sd1,eg,?_⟩
      split at hq1
      ·rename_i ec
       refine .inl ⟨ec,?_⟩
       split at hq1
       ·rename_i e1 ee
        refine⟨e1,ee,?_⟩
        cases em:Pp gt fc fe (V5 n0 caps sd) (ds.drop (i+1)) with
        |ok fs=>
         rw[em] at hq1
         have:(es++[e1])++fs=es++e1::fs:=by simp
         rw[M.bind_ok,this]
         exact hq1
        |ex x=>rw[em] at hq1;exact hq1.elim
        |bad=>rw[em] at hq1;exact hq1.elim
       ·exact hq1.elim
      ·rename_i ec
       exact .inr ⟨ec,hq1⟩
      ·exact hq1.elim
     ·exact hq1.elim
    have titem:=T.item Xc eP eW eK eC i [] s' _ H' (fun _ _=>False) J1 (fpc fr1) st1 go
    rw[eA] at titem
    refine wpAny_mono titem (fun r s4 hr=>?_) fun _ _ z=>z
    obtain⟨u,rfl,h4⟩:=hr
    refine wpAny_mono h4 (fun _ s5 h5=>?_) fun _ _ z=>z
    obtain⟨x,H5,J5,r5,y5,st5,fr5⟩:=h5
    obtain⟨Hf5,g5,rx⟩:=yl x H5 y5
    have J5':=J5.pinned (fpc fr5) (T.obj _ _ st5)
    have hD5:H5 s2.heap.objs.size=some (.lst vs):=g5.all _ _ hd1
    have hf5:Hf5 s2.heap.objs.size=none:=g5.ban _ (Lv.lst hd1) hf1
    have him5:∀(j:Nat) (d:D),(V5 n0 caps sd)[j]?=some (some (.im d))->∃v,σ'[j]?=some (some v)/\Rep X.K Hf5 d v:=fun j d z=>let ⟨v,z1,z2⟩:=him1 j d z;⟨v,z1,z2.mono g5.fz⟩
    have sr5:SR Xc.K H5 (fun a=>Lv H5 a/\Hf5 a=none) Hf5 (V5 n0 caps sd) σ' H5:=eK▸SR.ofIm g5.sub hlen1 him5 Zb9
    obtain⟨kl,kk,kn⟩:=hk d _ sd1 eg
    rcases hq2 with⟨ec,e1,ee,hq2⟩|⟨ec,hq2⟩
    ·have hg2:=pg _ s5 σ' H5 x u (fun σ6 H6=>tcn σ6 H6 fun bb H6'=>bb=true/\te σ6 H6' fun v7 H7=>∃Hf7,Gr Hf5 H5 Hf7 H7/\Rep X.K Hf7 e1 v7/\(V5 n0 caps sd).length=σ6.length/\(∀(j:Nat) (d:D),(V5 n0 caps sd)[j]?=some (some (.im d))->∃v,σ6[j]?=some (some v)/\Rep X.K Hf7 d v)) J5' r5
      (qg H5 _ Hf5 _ σ' H5 x d sd1 _ sr5 (eK▸rx) eg fun σ6 sr6=>qcn H5 _ Hf5 sd1 σ6 H5 _ sr6 (by
       rw[ec]
       rintro bb Hf6 H6' g6 rfl
       refine⟨rfl,qe H5 _ Hf6 sd1 σ6 H6' _ (sr6.gr g6) ?_⟩
       rw[ee]
       intro v7 Hf7 H7 g7 r7
       have r7:Rep Xc.K Hf7 e1 v7:=r7
       rw[eK] at r7
       refine⟨Hf7,g6.trans g7,r7,by rw[<-kl];exact sr6.len,fun j d z=>?_⟩
       have z2:sd1[j]?=some (some (.im d)):=by rw[kk j (Bg z)];exact z
       obtain⟨v,z3,z4⟩:=sr6.im j d z2
       rw[eK] at z4
       exact⟨v,z3,z4.mono (g6.fz.trans g7.fz)⟩))
     rw[eP,eW,eA,eX,eE] at hg2
     refine wpAny_mono hg2 (fun _ s6 h6=>?_) fun _ _ z=>z
     obtain⟨σ6,H6,J6,q6⟩:=h6
     have hc2:=pcn _ s6 σ6 H6 _ J6 q6
     rw[eP,eW,eA,eX,eE] at hc2
     refine wpAny_mono hc2 (fun bb s6' h6=>?_) fun _ _ z=>z
     obtain⟨H6',J6',rfl,q6'⟩:=h6
     rw[if_pos rfl]
     have he2:=pe _ s6' σ6 H6' _ J6' q6'
     rw[eP,eW,eA,eX,eE] at he2
     refine wpAny_mono he2 (fun y s7 h7=>?_) fun _ _ z=>z
     obtain⟨v7,H7,J7,r7,Hf7,g7,rv7,hl7,him7⟩:=h7
     have hD7:H7 s2.heap.objs.size=some (.lst vs):=g7.all _ _ hD5
     have hf7:Hf7 s2.heap.objs.size=none:=g7.ban _ (Lv.lst hD5) hf5
     have happ:=Wp (X:=Xc) _ s7 σ6 H7 (.ref s2.heap.objs.size) [v7] (.ref s2.heap.objs.size) [y] (fun _ H8=>H8=upd H7 s2.heap.objs.size (.lst (vs++[v7]))) J7 rfl (.cons r7 .nil)
      ⟨_,vs,v7,rfl,rfl,hD7,by
       have h1:=of_decide_eq_true hfew
       have h2:=sizeLine_eq
       lia,rfl⟩
     rw[eP,eW,eA,eX] at happ
     refine wpAny_mono happ (fun _ s8 h8=>?_) fun _ _ z=>z
     obtain⟨_,H8,J8,_,e8⟩:=h8
     subst e8
     have g17:=(g1.trans g5).trans g7
     refine⟨ds.length-(i+1),by lia,i+1,vs++[v7],es++[e1],_,Hf7,σ6,rfl,hlt,J8.unpinned,?_,fun b hb=>?_,Zo,hf7,⟨g17.fz,fun b o z=>?_,fun b o z=>?_,g17.ban⟩,?_,by rw[List.length_append,List.length_singleton];lia,hl7,him7,hq2⟩
     ·exact T.keep _ _ _ st5 fun b hb o e=>(J8.pin (b,o) (List.mem_append_right _ (List.mem_append_right _ (Xh hb e)))).1
     ·obtain⟨o,e,_⟩:=T.obj _ _ st5 b hb
      exact(J8.pin (b,o) (List.mem_append_right _ (List.mem_append_right _ (Xh hb e)))).2.1
     ·have:b≠s2.heap.objs.size:=Zw z hf7
      rw[Zm this];exact g17.sub b o z
     ·have:b≠s2.heap.objs.size:=Zw z fresh
      rw[Zm this];exact g17.all b o z
     ·exact(rs1.mono (g5.fz.trans g7.fz)).append (Reps.cons rv7 Reps.nil)
    ·have hg2:=pg _ s5 σ' H5 x u (fun σ6 H6=>tcn σ6 H6 fun bb H7=>bb=false/\∃Hf7,Gr Hf5 H5 Hf7 H7/\(V5 n0 caps sd).length=σ6.length/\(∀(j:Nat) (d:D),(V5 n0 caps sd)[j]?=some (some (.im d))->∃v,σ6[j]?=some (some v)/\Rep X.K Hf7 d v)) J5' r5
      (qg H5 _ Hf5 _ σ' H5 x d sd1 _ sr5 (eK▸rx) eg fun σ6 sr6=>qcn H5 _ Hf5 sd1 σ6 H5 _ sr6 (by
       rw[ec]
       rintro bb Hf6 H6' g6 rfl
       refine⟨rfl,Hf6,g6,by rw[<-kl];exact sr6.len,fun j d z=>?_⟩
       have z2:sd1[j]?=some (some (.im d)):=by rw[kk j (Bg z)];exact z
       obtain⟨v,z3,z4⟩:=sr6.im j d z2
       rw[eK] at z4
       exact⟨v,z3,z4.mono g6.fz⟩))
     rw[eP,eW,eA,eX,eE] at hg2
     refine wpAny_mono hg2 (fun _ s6 h6=>?_) fun _ _ z=>z
     obtain⟨σ6,H6,J6,q6⟩:=h6
     have hc2:=pcn _ s6 σ6 H6 _ J6 q6
     rw[eP,eW,eA,eX,eE] at hc2
     refine wpAny_mono hc2 (fun bb s8 h6=>?_) fun _ _ z=>z
     obtain⟨H8,J8,rfl,Hf7,g7,hl7,him7⟩:=h6
     rw[if_neg (by decide)]
     have hD7:H8 s2.heap.objs.size=some (.lst vs):=g7.all _ _ hD5
     have hf7:Hf7 s2.heap.objs.size=none:=g7.ban _ (Lv.lst hD5) hf5
     have g17:=(g1.trans g5).trans g7
     refine⟨ds.length-(i+1),by lia,i+1,vs,es,_,Hf7,σ6,rfl,hlt,J8.unpinned,?_,fun b hb=>?_,hD7,hf7,g17,rs1.mono (g5.fz.trans g7.fz),by lia,hl7,him7,hq2⟩
     ·exact T.keep _ _ _ st5 fun b hb o e=>(J8.pin (b,o) (List.mem_append_right _ (List.mem_append_right _ (Xh hb e)))).1
     ·obtain⟨o,e,_⟩:=T.obj _ _ st5 b hb
      exact(J8.pin (b,o) (List.mem_append_right _ (List.mem_append_right _ (Xh hb e)))).2.1
  ·refine⟨0,[],[],_,Hf2,_,by simp,Nat.zero_le _,J0,T.keep 0 _ _ Za3 fun b hb o e=>hold1 b o e,fun b hb=>?_,Zo,g2.sub.free fresh,⟨Same.refl _,fun b o z=>?_,Qa fresh _,fun _ _ z=>z⟩,Reps.nil,Nat.le_refl _,?_,fun j d z=>?_,?_⟩
   ·rw[Zm (nfp b hb)];exact(f2 b hb).1
   ·have:b≠s2.heap.objs.size:=Zw (g2.sub b o z) fresh
    rw[Zm this];exact g2.sub b o z
   ·unfold V5;simp only[List.length_append,List.length_replicate,List.length_map]
   ·obtain⟨k,j',d',rfl,ej,es,ed⟩:=Ek z
    cases ed
    obtain⟨v,z1,z2⟩:=sr2.im j' d es
    refine⟨v,?_,z2⟩
    rw[List.getElem?_append_right (by simp),List.length_replicate,Nat.add_sub_cancel_left,List.getElem?_map,ej]
    simp[z1]
   ·have:∀r:M (List D),(r.bind fun fs=>.ok ([]++fs))=r:=fun r=>by cases r<;>simp
    rw[List.drop_zero,this]
    exact hq
 show codeAny (model X.prog X.w) X.A (.compStart (.ListComp elt [⟨tg,iter,[cnd],0⟩] scope pos) 0 (.ref it) (.ref s2.heap.objs.size) (compEnvC scope cl (s2.heap.push Qz).objs.size X.env))
  (compPost (model X.prog X.w) X.A X.xe none (EP X pins σ Q) (.ref s2.heap.objs.size) (s2.heap.push Qz).objs.size) {s2 with heap:=h₁,toks:=s2.toks+([]:List (Str×Value)).length}
 rw[hC]
 exact codeAny_compStart_list (loop _ rfl) (T.self X.A 0 _ _ _ (T.keep 0 _ _ Za3 fun b hb o e=>hold1 b o e) (loop _ rfl))
end DL
namespace DL
open PySem PySem.Spec PyProof.Rows L2 PySem.W
def Zaa (p q r t:Int):D->M D
 |.tup [.tup [.int a,.int b],.tup [.int c,.int d]]=>.ok (.bl (!(decide (a=p)&&decide (b=q)&&decide (c=r)&&decide (d=t))))
 |_=>.bad
end DL
namespace DL
open PySem PySem.Spec PyProof.Rows L2
theorem S7 {α β:Type}{F:α->β->Prop}:∀{l:List α}{m:List β},Paired F l m->∀{i:Nat}{a:α},l[i]?=some a->∃b,m[i]?=some b/\F a b
 |_,_,.nil,i,a,e=>by simp at e
 |_,_,.cons h t,0,a,e=>by simp at e;subst e;exact⟨_,rfl,h⟩
 |_,_,.cons h t,i+1,a,e=>by
  obtain⟨b,e1,e2⟩:=S7 t (i:=i) (by simpa using e)
  exact⟨b,by simpa using e1,e2⟩
section
variable {X:Cx}{E:XK}{pos p apos cpos:Pos}
def Mf (K:PySem.W.Frag)(T:Addr)(p q r t:Int):Bool:=match K.lookup T with
 |some o=>(match o.cls,o.data with
  |.type n,.seq its _=>decide (n="tuple")&&(match its.toList with
   |[.ref a,.ref b]=>Zf4 K a [.int p,.int q]&&Zf4 K b [.int r,.int t]
   |_=>false)
  |_,_=>false)
 |none=>false
def Zcy {K:PySem.W.Frag}{T:Addr}{p q r t:Int}(h:Mf K T p q r t=true)(H:Hp):∃a b,SqT K H T [.ref a,.ref b]/\SqT K H a [.int p,.int q]/\SqT K H b [.int r,.int t]:=by
 unfold Mf at h
 split at h
 ·rename_i o eo
  split at h
  ·rename_i n its m e1 e2
   rw[Bool.and_eq_true] at h
   obtain⟨h1,h2⟩:=h
   have h1:=of_decide_eq_true h1
   subst h1
   split at h2
   ·rename_i a b el
    rw[Bool.and_eq_true] at h2
    have hs:its.size=2:=by rw[<-Array.length_toList,el];rfl
    refine⟨a,b,.inr ⟨o,its,m,eo,e1,e2,?_,?_⟩,(F9 h2.1).1,(F9 h2.2).1⟩
    ·rw[hs,sizeLine_eq];decide
    ·rw[el]
     exact .cons rfl (.cons rfl .nil)
   ·cases h2
  ·cases h
 ·cases h
section
variable {pins:List (Addr×Obj)}{σ:L2.St}{H:Hp}{s:Shared}
def Hg (I:Inv X pins σ H s){A:Around}(hu:A.units+2<cLine){a b:Addr}{x y u v:Int}(ha:SqT X.K H a [.int x,.int y])(hb:SqT X.K H b [.int u,.int v]):SeqAt.EqAt A s (.ref a) (.ref b) (decide (x=u)&&decide (y=v)):=by
 obtain⟨i1,v1,t1,_⟩:=I.tuple ha
 obtain⟨i2,v2,t2,_⟩:=I.tuple hb
 obtain⟨a1,a2,rfl,r1,r2⟩:=Sj v1
 obtain⟨b1,b2,rfl,r3,r4⟩:=Sj v2
 obtain⟨k1,rfl⟩:=(show ∃t,a1=Value.int x t from r1)
 obtain⟨k2,rfl⟩:=(show ∃t,a2=Value.int y t from r2)
 obtain⟨k3,rfl⟩:=(show ∃t,b1=Value.int u t from r3)
 obtain⟨k4,rfl⟩:=(show ∃t,b2=Value.int v t from r4)
 have rc:=SeqAt.RcAt.tuples (e:=fun j=>if j=0 then x==u else y==v) t1 t2 (show A.units<cLine by lia) fun j h1 h2=>by
  have:j=0\/j=1:=by simp at h1;lia
  rcases this with rfl|rfl
  ·exact .int_int x k1 u k3
  ·exact .int_int y k2 v k4
 have e:(decide (x=u)&&decide (y=v))=((List.range (min [Value.int x k1,Value.int y k2].toArray.size [Value.int u k3,Value.int v k4].toArray.size)).all (fun j=>if j=0 then x==u else y==v)&&([Value.int x k1,Value.int y k2].toArray.size==[Value.int u k3,Value.int v k4].toArray.size)):=by
  show _=((List.range 2).all _&&true)
  rw[Bool.eq_iff_iff]
  simp[List.range_succ]
 rw[e]
 by_cases hp:a=b
 ·subst hp
  have q:=I.tuple_inj ha hb
  injection q with q1 q2
  injection q2 with q2 _
  injection q1 with q1
  injection q2 with q2
  rw[<-e,q1,q2,decide_eq_true rfl,decide_eq_true rfl]
  exact .same _
 ·exact .of_refs hp rc
def Zf7 (I:Inv X pins σ H s)(hu:X.A.units+64<cLine){p T a b c d:Addr}{x y z w p' q' r' t':Int}(h1:SqT X.K H p [.ref a,.ref b])(h2:SqT X.K H a [.int x,.int y])(h3:SqT X.K H b [.int z,.int w])(g1:SqT X.K H T [.ref c,.ref d])(g2:SqT X.K H c [.int p',.int q'])(g3:SqT X.K H d [.int r',.int t']):SeqAt.RcNeAt X.A s (.ref p) (.ref T) (!(decide (x=p')&&decide (y=q')&&decide (z=r')&&decide (w=t'))):=by
 obtain⟨i1,v1,t1,_⟩:=I.tuple h1
 obtain⟨i2,v2,t2,_⟩:=I.tuple g1
 obtain⟨a1,a2,rfl,r1,r2⟩:=Sj v1
 obtain⟨b1,b2,rfl,r3,r4⟩:=Sj v2
 obtain rfl:a1=Value.ref a:=r1
 obtain rfl:a2=Value.ref b:=r2
 obtain rfl:b1=Value.ref c:=r3
 obtain rfl:b2=Value.ref d:=r4
 have hu1:X.A.in1.units+2<cLine:=by show X.A.units+1+2<_;lia
 have e1:=Hg I (A:=X.A.in1) hu1 h2 g2
 have e2:=Hg I (A:=X.A.in1) hu1 h3 g3
 have ne:=SeqAt.RcNeAt.tuples (e:=fun j=>if j=0 then(decide (x=p')&&decide (y=q')) else(decide (z=r')&&decide (w=t'))) t1 t2 (show X.A.units<cLine by lia) fun j k1 k2=>by
  have:j=0\/j=1:=by simp at k1;lia
  rcases this with rfl|rfl
  ·exact e1
  ·exact e2
 have e:(!(decide (x=p')&&decide (y=q')&&decide (z=r')&&decide (w=t')))=!((List.range (min [Value.ref a,Value.ref b].toArray.size [Value.ref c,Value.ref d].toArray.size)).all (fun j=>if j=0 then(decide (x=p')&&decide (y=q')) else(decide (z=r')&&decide (w=t')))&&([Value.ref a,Value.ref b].toArray.size==[Value.ref c,Value.ref d].toArray.size)):=by
  show _=!((List.range 2).all _&&true)
  simp[List.range_succ,Bool.and_assoc]
 rw[e]
 exact ne
end
def Zoa (K:PySem.W.Frag)(T:Addr)(p q r t:Int):R2:=fun x y H Q=>∃c a b k l m n,x=.ref c/\y=.ref T/\SqT K H c [.ref a,.ref b]/\SqT K H a [.int k,.int l]/\SqT K H b [.int m,.int n]/\Q (.bl (!(decide (k=p)&&decide (l=q)&&decide (m=r)&&decide (n=t)))) H
def Zjt {T:Addr}{p q r t:Int}(hu:X.A.units+64<cLine)(hT:Mf X.K T p q r t=true):OpR X (compareOp .NotEq) (Zoa X.K T p q r t):=by
 intro pins s σ H x y v u Q I rx ry h
 obtain⟨c,a,b,k,l,m,n,rfl,rfl,h1,h2,h3,q⟩:=h
 obtain rfl:v=Value.ref c:=rx
 obtain rfl:u=Value.ref T:=ry
 obtain⟨d,e,g1,g2,g3⟩:=Zcy hT H
 exact Zf7 I hu h1 h2 h3 g1 g2 g3 _ _ _ _ ⟨.bl _,H,I,rfl,q⟩
def Zf8 {x:Str}{e:Expr}{p2:Pos}{T:Addr}{p q r t:Int}{f:Zf->M D}(hu:X.A.units+64<cLine)(hm:X.mg x=some (.ref T))(ht:Mf X.K T p q r t=true)(he:Y0 X E e f)(hg:Gl X x:=by rfl) (hd:(x==("__debug__":Str))=false:=by decide):
  Lz X E (.Compare e [.NotEq] [.Name x p2] pos) (DL.tB (F6 (Zaa p q r t) f)):=by
 obtain⟨te,pe,qe⟩:=he
 refine⟨_,M4 (Zjt hu ht) pe (Zev (v:=.ref T) hg hm rfl hd) (by with_unfolding_all rfl),fun H0 B Hf sd σ H Q sr h=>?_⟩
 refine qe H0 B Hf sd σ H _ sr (Po.bind (Zjr h) fun d v Hf1 H1 _ g1 rv h1=>?_)
 unfold Zaa at h1
 split at h1
 ·rename_i k l m n _
  obtain⟨c,xs,rfl,hc,hr⟩:=Qc rv
  obtain⟨v1,v2,rfl,r1,r2⟩:=L0 hr
  obtain⟨a,as,rfl,ha,hra⟩:=Qc r1
  obtain⟨b,bs,rfl,hb,hrb⟩:=Qc r2
  obtain⟨w1,w2,rfl,s1,s2⟩:=L0 hra
  obtain⟨w3,w4,rfl,s3,s4⟩:=L0 hrb
  rw[rep_int] at s1 s2 s3 s4
  subst s1 s2 s3 s4
  exact⟨c,a,b,k,l,m,n,rfl,rfl,Same.seqT g1.sub hc,Same.seqT g1.sub ha,Same.seqT g1.sub hb,Po.ret g1.sub h1 (rep_bl.mpr rfl)⟩
 ·exact h1.elim
end
section
variable {X:Cx}{E:XK}{pos p1 p2 pos':Pos}{key value:Expr}{x:Str}
def Zob {σ:L2.St}{i:Nat}{v:Option V}(hi:i≠0):(σ.set i v)[0]?=σ[0]?:=List.getElem?_set_ne hi
end
def Gj (H:Hp)(a:Addr):Hp:=fun b=>if b=a then none else H b
def Va (H:Hp)(a:Addr):Same (Gj H a) H:=fun b u q=>by
 unfold Gj at q
 split at q
 ·cases q
 ·exact q
def Vb (H:Hp)(a:Addr):Gj H a a=none:=if_pos rfl
def Jm {H:Hp}{a b:Addr}(h:b≠a):Gj H a b=H b:=if_neg h
structure GrM (a:Addr) (Hf H Hf' H':Hp):Prop where
 fz:Same Hf Hf'
 sub:Same Hf' H'
 all:∀b u,b≠a->H b=some u->H' b=some u
 ban:∀b,Lv H b->Hf b=none->Hf' b=none
def Zk0 (K:PySem.W.Frag)(Hf:Hp):List S->List V->Prop:=Paired fun s v=>s.own=false/\RepS K Hf s v
def Zmd (K:PySem.W.Frag)(Hf _H:Hp)(ss:List S)(vs:List V):Prop:=Zk0 K Hf ss vs
def Zhu (X:Cx)(E:XK)(es:List Expr)(f:Zf->M (List S)):Prop:=
 ∃t:TA,PA X es t/\∀(H0:Hp) (B:Addr->Prop) (Hf:Hp) (sd:Zf) (σ:L2.St) (H:Hp) (Q:List V->Hp->Prop),SR X.K H0 B Hf sd σ H->Po X.K E (Zmd X.K) Hf H (f sd) Q->t σ H Q
def W7:S->Bool
 |.ob _ _ _=>true
 |.fl _ _ _=>true
 |_=>false
def Kk {s:S}(h:W7 s=true):s.own=false:=by
 cases s<;>first|rfl|cases h
def Mg (_:Zf):M (List S):=.ok []
def V1 (i:Nat)(fr:Zf->M (List S))(sd:Zf):M (List S):=match sd[i]? with
 |some (some s)=>if W7 s then(fr sd).bind fun ss=>.ok (s::ss) else .bad
 |_=>.bad
def Ni (fa:Zf->M D)(fr:Zf->M (List S))(sd:Zf):M (List S):=(fa sd).bind fun d=>(fr sd).bind fun ss=>.ok (.im d::ss)
section
variable {X:Cx}{E:XK}{pos p p1 p2 apos:Pos}{a:Expr}{es:List Expr}{x:Str}
def R9:Zhu X E [] Mg:=⟨_,Xa,fun _ _ _ _ _ _ _ sr h=>Po.ret (R:=Zmd X.K) sr.sub h .nil⟩
def Ws {fa:Zf->M D}{fr:Zf->M (List S)}(ha:Y0 X E a fa)(hr:Zhu X E es fr)(hs:starEach (a::es) X.env=(false,eval a X.env)::starEach es X.env:=by rfl):Zhu X E (a::es) (Ni fa fr):=by
 obtain⟨ta,pa,qa⟩:=ha
 obtain⟨tr,pr,qr⟩:=hr
 refine⟨_,Qh pa pr hs,fun H0 B Hf sd σ H Q sr h=>?_⟩
 refine qa H0 B Hf sd σ H _ sr (Po.bind h fun d v Hf1 H1 _ g1 rv h1=>?_)
 refine qr H0 B Hf1 sd σ H1 _ (sr.gr g1) (Po.bind h1 fun ds vs Hf2 H2 _ g2 rs h2=>?_)
 exact Po.ret (R:=Zmd X.K) g2.sub h2 (.cons ⟨rfl,Rep.mono g2.fz rv⟩ rs)
def Kt (i:Nat){fr:Zf->M (List S)}(hr:Zhu X E es fr)(hN:X.N[i]?=some x:=by rfl)(hv:Rz X.env.scope x:=by trivial) (hd:(x==("__debug__":Str))=false:=by decide)
  (hcd:(x==("__classdict__":Str))=false:=by decide) (hs:starEach (.Name x p::es) X.env=(false,eval (.Name x p) X.env)::starEach es X.env:=by rfl):Zhu X E (.Name x p::es) (V1 i fr):=by
 obtain⟨tr,pr,qr⟩:=hr
 refine⟨_,Qh (Z9 hN hv hd hcd) pr hs,fun H0 B Hf sd σ H Q sr h=>?_⟩
 unfold V1 at h
 split at h
 ·rename_i s ei
  split at h
  ·rename_i ho
   obtain⟨v,e1,e2⟩:=sr.imS i s ei (Kk ho)
   refine⟨v,e1,qr H0 B Hf sd σ H _ sr (Po.bind h fun ss vs Hf1 H1 _ g1 rs h1=>?_)⟩
   exact Po.ret (R:=Zmd X.K) g1.sub h1 (.cons ⟨Kk ho,e2.mono g1.fz⟩ rs)
  ·exact h.elim
 ·exact h.elim
end
def Rh (K:PySem.W.Frag)(F:List S->M S):Sp:=fun vs H Q _=>∃Hf ss s,Same Hf H/\Zk0 K Hf ss vs/\F ss=.ok s/\∀v Hf' H',Gr Hf H Hf' H'->RS K H Hf' H' s v->Q v H'
def Hh (n m:Nat)(f:Zf->M O)(ss:List S):M S:=if ss.length=n then Gz (f (ss.map some++List.replicate m none)) else .bad
def Wt {K:PySem.W.Frag}{N:List Str}{Hf H:Hp}{ss:List S}{vs:List V}{m:Nat}(e:Same Hf H)(r:Zk0 K Hf ss vs)(hN:N.length=ss.length+m):
  SR K H (fun a=>Lv H a/\Hf a=none) Hf (ss.map some++List.replicate m none) (L2.Xu N vs) H:=by
 have hlen:=Paired.length r
 have es:L2.Xu N vs=vs.map some++List.replicate m none:=by
  unfold L2.Xu
  rw[show N.length-vs.length=m by lia]
 rw[es]
 refine SR.ofS e (by simp[hlen]) fun i t h=>?_
 by_cases hl:i<ss.length
 ·rw[List.getElem?_append_left (by simpa using hl),List.getElem?_map] at h
  cases q:ss[i]? with
  |none=>rw[q] at h;cases h
  |some s=>
   rw[q] at h
   cases h
   obtain⟨v,e1,e2,e3⟩:=S7 r q
   have:i<vs.length:=(List.getElem?_eq_some_iff.mp e1).1
   exact⟨e2,v,by rw[List.getElem?_append_left (by simpa using this),List.getElem?_map,e1];rfl,e3⟩
 ·rw[List.getElem?_append_right (by simpa using hl),List.getElem?_replicate] at h
  split at h<;>cases h
def Ew {P:Program}{w:World}{K:PySem.W.Frag}{mg:Str->Option Value}{base:Heap}{x qual:Str}{st:Stmt}{f:Addr}{fd:FuncData}{N ps:List Str}{k m n:Nat}{fb:Zf->M O}(F:Fun K x qual st f fd)(sc:FnScope N ps (Zi st))(hn:ps.length=n)(hN:N.length=n+m)(hbody:∀(cdv:Value) (A:Around) (outer:List Env) (s:Shared) (H:Hp) (E:XK),Room k (A.deeper (envOfC qual (Zi st) s.heap.objs.size f cdv)) ->
   Gs (X5 Yd P w K mg base N qual (Zi st) f cdv A outer s H E).nox E0 (Y5 st) fb):FnOk P w K mg base Yd (k+1) f fd ps (Rh K (Hh n m fb)):=by
 refine F.ok sc (fun vs H Q E h=>?_) (fun cdv A outer s H vs Q E hr h=>?_)
 ·obtain⟨Hf,ss,s,e,r,hF,_⟩:=h
  unfold Hh at hF
  split at hF
  ·rename_i hl
   rw[<-Paired.length r,hl,hn]
  ·cases hF
 ·obtain⟨Hf,ss,s',e,r,hF,q⟩:=h
  obtain⟨t,p,qt⟩:=hbody cdv A outer s H E hr
  unfold Hh at hF
  split at hF
  ·rename_i hl
   refine⟨t,p,qt H _ Hf _ (L2.Xu N vs) H _ (Wt (N:=N) (m:=m) e r (by lia)) ?_⟩
   generalize fb (ss.map some++List.replicate m none)=ro at hF
   have back:∀{v:V}{Hf' H':Hp}{s:DL.S},Same Hf Hf'->Fin' H (fun a=>Lv H a/\Hf a=none) Hf' H'->RS K H Hf' H' s v->s=s'->Q v H':=fun {v Hf' H' s} e1 e2 e3 e4=>by
    subst e4
    exact q v Hf' H' ⟨e1,e2.sub,e2.all,fun a h1 h2=>e2.ban a ⟨h1,h2⟩⟩ e3
   cases ro with
   |ok o=>
    cases o with
    |rt s2=>
     have e':s2=s':=by cases hF;rfl
     exact fun v Hf' H' e1 e2 e3=>back e1 e2 e3 e'
    |nx sd'=>
     have e':DL.S.im .non=s':=by cases hF;rfl
     exact fun σ' Hf' H' e1 sr'=>back (v:=.non) (s:=DL.S.im .non) e1 sr'.fin (show Rep K Hf' .non .non from rep_non.mpr rfl) e'
    |bk sd'=>cases hF
    |ct sd'=>cases hF
   |ex x=>cases hF
   |bad=>cases hF
  ·cases hF
def Nj:M S->M D
 |.ok (.im d)=>.ok d
 |_=>.bad
def S8 (F:List S->M S)(fs:Zf->M (List S))(sd:Zf):M D:=(fs sd).bind fun ss=>Nj (F ss)
def Bl {K:PySem.W.Frag}{E:XK}{Hf1 H1:Hp}{F:List S->M S}{ss:List S}{vs:List V}{Q:VK}(e:Same Hf1 H1)(rs:Zk0 K Hf1 ss vs)(h:Po K E (rV K) Hf1 H1 (Nj (F ss)) Q){E':XK}:Rh K F vs H1 Q E':=by
 cases q:F ss with
 |ok s=>
  rw[q] at h
  cases s with
  |im d=>exact⟨Hf1,ss,.im d,e,rs,q,fun v Hf' H' g rv=>h v Hf' H' g rv⟩
  |ow ds=>exact h.elim
  |od kvs=>exact h.elim
  |dk kvs=>exact h.elim
  |xc x=>exact h.elim
  |fn x=>exact h.elim
  |ob a c r=>exact h.elim
  |fl a g q=>exact h.elim
 |ex x=>rw[q] at h;exact h.elim
 |bad=>rw[q] at h;exact h.elim
section
variable {X:Cx}{E:XK}{pos p p1 p2 apos:Pos}{a:Expr}{es:List Expr}{x vn m:Str}{k:Nat}{f:Addr}{fd:FuncData}{ps:List Str}{F:List S->M S}
def Cq {fs:Zf->M (List S)}(G:FnOk X.prog X.w X.K X.mg X.base Yd k f fd ps (Rh X.K F))(hr:Room k X.A)(hm:X.mg x=some (.ref f))(hk:PySem.W.keepIn X.K (.ref f)=true)(hb:Binds X.K fd ps [])(ha:Zhu X E (a::es) fs)(hg:Gl X x:=by rfl) (hdb:(x==("__debug__":Str))=false:=by decide) (he:starEach (a::es) X.env=(false,eval a X.env)::starEach es X.env:=by rfl) (hpl:(backTo pos (starEach es X.env)).any (·.1)=false:=by rfl):
  Y0 X E (.Call (.Name x p) (a::es) [] pos) (S8 F fs):=by
 obtain⟨t,pt,qt⟩:=ha
 refine⟨_,Kd (dvs:=[]) (E:=E0) G hr hg hm hk hb .nil Jh pt hdb he hpl,fun H0 B Hf sd σ H Q sr h=>?_⟩
 refine qt H0 B Hf sd σ H _ sr (Po.bind h fun ss vs Hf1 H1 _ g1 rs h1=>?_)
 show Rh X.K F (vs++[]) H1 Q _
 rw[List.append_nil]
 exact Bl g1.sub rs h1
structure ObC (K:PySem.W.Frag) (c:Str) (C:Addr):Prop where
 at_:PySem.W.nsIn K mainGlobals c=some (some (.ref C))
 cls:Cls K C
def Nk {K:PySem.W.Frag}{H:Hp}{r:List (Str×D)}{gs:List (Str×V)}(h:RepKV K H r gs)(n:Str):match r.lookup n with
  |some d=>∃v,gs.lookup n=some v/\Rep K H d v
  |none=>gs.lookup n=none:=by
 induction h with
 |nil=>rfl
 | @cons p q l l' hp ht ih=>
  obtain⟨p1,p2⟩:=p
  obtain⟨q1,q2⟩:=q
  obtain⟨e,rp⟩:=hp
  have e:p1=q1:=e
  subst e
  rw[List.lookup_cons,List.lookup_cons]
  cases n==p1 with
  |true=>exact⟨q2,rfl,rp⟩
  |false=>exact ih
def Q4 (i:Nat)(c n:Str)(sd:Zf):M D:=match sd[i]? with
 |some (some (.ob _ c' r))=>if c'=c then(match r.lookup n with|some d=>.ok d|none=>.bad) else .bad
 |_=>.bad
def Qs (i:Nat){c n:Str}{C:Addr}(oc:ObC X.K c C)(na:NoAttr X.K C n)(hN:X.N[i]?=some vn:=by rfl)(hv:Rz X.env.scope vn:=by trivial) (hd:(vn==("__debug__":Str))=false:=by decide)
  (hcd:(vn==("__classdict__":Str))=false:=by decide) (hb:attributeBase (.Name vn p) n X.env (eval (.Name vn p) X.env)=eval (.Name vn p) X.env:=by rfl):Y0 X E (.Attribute (.Name vn p) n pos) (Q4 i c n):=by
 refine⟨_,U2 (Z9 hN hv hd hcd) hb,fun H0 B Hf sd σ H Q sr h=>?_⟩
 unfold Q4 at h
 split at h
 ·rename_i a c' r ei
  split at h
  ·rename_i ec
   subst ec
   obtain⟨v,e1,C',dx,gs,rfl,e2,e3,e4⟩:=sr.imS i _ ei rfl
   rw[oc.at_] at e2
   cases e2
   have kl:=Nk e4 n
   split at h
   ·rename_i d el
    rw[el] at kl
    obtain⟨v,l,rv⟩:=kl
    exact⟨.ref a,e1,a,C,dx,gs,v,rfl,sr.sub _ _ e3,oc.cls,na,l,Po.ret (R:=rV X.K) sr.sub h rv⟩
   ·exact h.elim
  ·exact h.elim
 ·exact h.elim
def Xj (i:Nat)(c n:Str)(F:List S->M S)(fs:Zf->M (List D))(sd:Zf):M D:=match sd[i]? with
 |some (some (.ob a c' r))=>if c'=c/\r.lookup n=none then(fs sd).bind fun ds=>Nj (F (.ob a c' r::ds.map S.im)) else .bad
 |_=>.bad
theorem Bm {K:PySem.W.Frag}{H:Hp}:∀{ds:List D}{vs:List V},Reps K H ds vs->Zk0 K H (ds.map S.im) vs
 |[],_,r=>by rw[reps_nil.mp r];exact .nil
 |d::ds,_,r=>by
  obtain⟨x,t,rfl,h,q⟩:=reps_cons.mp r
  exact .cons ⟨rfl,h⟩ (Bm q)
def Mh {c n:Str}{C:Addr}{t:TA}{fs:Zf->M (List D)}{i:Nat}(oc:ObC X.K c C)(qt:∀(H0:Hp) (B:Addr->Prop) (Hf:Hp) (sd:Zf) (σ:L2.St) (H:Hp) (Q:List V->Hp->Prop),SR X.K H0 B Hf sd σ H->Po X.K E (rA X.K) Hf H (fs sd) Q->t σ H Q){H0:Hp}{B:Addr->Prop}{Hf:Hp}{sd:Zf}{σ:L2.St}{H:Hp}{Q:VK}{E':XK}(sr:SR X.K H0 B Hf sd σ H)(h:Po X.K E (rV X.K) Hf H (Xj i c n F fs sd) Q):Zbm C n (Rh X.K F) [] E' (Za9 i) t σ H Q:=by
 unfold Xj at h
 split at h
 ·rename_i a c' r ei
  split at h
  ·rename_i ec
   obtain⟨ec,el⟩:=ec
   subst ec
   obtain⟨v,e1,C',dx,gs,rfl,e2,e3,e4⟩:=sr.imS i _ ei rfl
   rw[oc.at_] at e2
   cases e2
   have kl:=Nk e4 n
   rw[el] at kl
   refine⟨.ref a,e1,a,dx,gs,rfl,sr.sub _ _ e3,kl,qt H0 B Hf sd σ H _ sr (Po.bind h fun ds vs Hf1 H1 _ g1 rs h1=>?_)⟩
   rw[List.append_nil]
   have ro:RepS X.K Hf1 (.ob a c' r) (.ref a):=RepO.mono g1.fz ⟨C,dx,gs,rfl,oc.at_,e3,e4⟩
   exact Bl g1.sub (.cons ⟨rfl,ro⟩ (Bm rs)) h1
  ·exact h.elim
 ·exact h.elim
def Wc (i:Nat){c:Str}{C:Addr}{fs:Zf->M (List D)}{pl:Sem Bool}(oc:ObC X.K c C)(hm:Meth X.K C m f)(G:FnOk X.prog X.w X.K X.mg X.base Yd k f fd ps (Rh X.K F))(hr:Room k X.A)(hb:Binds X.K fd ps [])(ha:T3 X E (a::es) fs)(hN:X.N[i]?=some vn:=by rfl)(hv:Rz X.env.scope vn:=by trivial) (hd:(vn==("__debug__":Str))=false:=by decide) (hcd:(vn==("__classdict__":Str))=false:=by decide)
  (N3:starEach (a::es) X.env=(false,eval a X.env)::starEach es X.env:=by rfl) (hpl:(backTo pos (starEach es X.env)).any (·.1)=false:=by rfl)
  (ht:eval (.Call (.Attribute (.Name vn p) m apos) (a::es) [] pos) X.env=(do
   let ov <-eval (.Name vn p) X.env
   standAt apos.atName
   let (f,first) <-holding [ov] (getMethod ov m pl)
   callWith pos f first (backTo pos (starEach (a::es) X.env)) (backToKw pos (keywordEach [] X.env))):=by rfl):Y0 X E (.Call (.Attribute (.Name vn p) m apos) (a::es) [] pos) (Xj i c m F fs):=by
 obtain⟨t,pt,qt⟩:=ha
 exact⟨_,M8 (dvs:=[]) (E:=E0) (pl:=pl) (Z9 hN hv hd hcd) oc.cls hm G hr hb .nil Jh pt N3 hpl ht,fun H0 B Hf sd σ H Q sr h=>Mh oc qt sr h⟩
def K1 (i:Nat){c:Str}{C:Addr}{pl:Sem Bool}(oc:ObC X.K c C)(hm:Meth X.K C m f)(G:FnOk X.prog X.w X.K X.mg X.base Yd k f fd ps (Rh X.K F))(hr:Room k X.A)(hb:Binds X.K fd ps [])(hN:X.N[i]?=some vn:=by rfl)(hv:Rz X.env.scope vn:=by trivial) (hd:(vn==("__debug__":Str))=false:=by decide) (hcd:(vn==("__classdict__":Str))=false:=by decide)
  (ht:eval (.Call (.Attribute (.Name vn p) m apos) [] [] pos) X.env=(do
   let ov <-eval (.Name vn p) X.env
   standAt apos.atName
   let (f,first) <-holding [ov] (getMethod ov m pl)
   callWith pos f first (backTo pos (starEach [] X.env)) (backToKw pos (keywordEach [] X.env))):=by rfl):Y0 X E (.Call (.Attribute (.Name vn p) m apos) [] [] pos) (Xj i c m F Zj):=
 ⟨_,Ax (dvs:=[]) (E:=E0) (pl:=pl) (Z9 hN hv hd hcd) oc.cls hm G hr hb .nil Jh ht,fun H0 B Hf sd σ H Q sr h=>Mh oc (fun _ _ _ _ _ _ _ sr h=>Po.ret sr.sub h Reps.nil) sr h⟩
end
def Vl (it ip:Nat)(f:Zf->M O):List (S×D)->Zf->M O
 |[],sd=>.ok (.nx sd)
 |od::r,sd=>(f ((sd.set it (some od.1)).set ip (some (.im od.2)))).bind fun x=>match x with
  |.nx sd2=>Vl it ip f r sd2
  |.ct sd2=>Vl it ip f r sd2
  |.bk sd2=>.ok (.nx sd2)
  |.rt s=>.ok (.rt s)
def Nl (it ip i1 i2:Nat)(f1 f2:Zf->M D)(f:Zf->M O)(sd:Zf):M O:=match sd[i1]?,sd[i2]? with
 |some (some o1),some (some o2)=>if W7 o1&&W7 o2 then(f1 sd).bind fun d1=>(f2 sd).bind fun d2=>Vl it ip f [(o1,d1),(o2,d2)] sd else .bad
 |_,_=>.bad
def PrV (K:PySem.W.Frag)(Hf:Hp)(od:S×D)(v:V):Prop:=∃p a b,v=.ref p/\Hf p=some (.tup [a,b])/\od.1.own=false/\RepS K Hf od.1 a/\Rep K Hf od.2 b
theorem PrV.mono {K:PySem.W.Frag}{H H':Hp}(e:Same H H'){od:S×D}{v:V}(h:PrV K H od v):PrV K H' od v:=by
 obtain⟨p,a,b,e1,e2,e3,e4,e5⟩:=h
 exact⟨p,a,b,e1,e _ _ e2,e3,e4.mono e,e5.mono e⟩
section
variable {X:Cx}{E:XK}{pos q0 q1 q2 pt pp p1 p2 pg:Pos}{x1 x2 xt xp:Str}{e1 e2:Expr}{k0 k1 k2 kt:Nat}
def Zcz (it ip i1 i2:Nat){body:List Stmt}{f1 f2:Zf->M D}{f:Zf->M O}(hp:PassesOwn (model X.prog X.w) X.A X.env X.xe)(hc:X.calm=true)(hN:X.N.Nodup)(h1:Y0 X E e1 f1)(h2:Y0 X E e2 f2)(hb:Gs X E body f)(n1:X.N[i1]?=some x1:=by rfl)(n2:X.N[i2]?=some x2:=by rfl)(nt:X.N[it]?=some xt:=by rfl)(np:X.N[ip]?=some xp:=by rfl)(v1:Rz X.env.scope x1:=by trivial)(v2:Rz X.env.scope x2:=by trivial)(lt:Za8 X.env.scope xt:=by trivial)(lp:Za8 X.env.scope xp:=by trivial)(ft:X.fn xt=true\/X.env.scope.names.lookup xt=some .local:=by first|exact .inl rfl|exact .inr rfl)(fp:X.fn xp=true\/X.env.scope.names.lookup xp=some .local:=by first|exact .inl rfl|exact .inr rfl)
  (d1:(x1==("__debug__":Str))=false:=by decide) (c1:(x1==("__classdict__":Str))=false:=by decide) (d2:(x2==("__debug__":Str))=false:=by decide) (c2:(x2==("__classdict__":Str))=false:=by decide)
  (s1:starEach [.Name x1 p1,e1] X.env=(false,eval (.Name x1 p1) X.env)::starEach [e1] X.env:=by rfl) (s1':starEach [e1] X.env=(false,eval e1 X.env)::starEach [] X.env:=by rfl)
  (s2:starEach [.Name x2 p2,e2] X.env=(false,eval (.Name x2 p2) X.env)::starEach [e2] X.env:=by rfl) (s2':starEach [e2] X.env=(false,eval e2 X.env)::starEach [] X.env:=by rfl)
  (s3:starEach [.Tuple [.Name x1 p1,e1] k1 q1,.Tuple [.Name x2 p2,e2] k2 q2] X.env=(false,eval (.Tuple [.Name x1 p1,e1] k1 q1) X.env)::starEach [.Tuple [.Name x2 p2,e2] k2 q2] X.env:=by rfl)
  (s4:starEach [.Tuple [.Name x2 p2,e2] k2 q2] X.env=(false,eval (.Tuple [.Name x2 p2,e2] k2 q2) X.env)::starEach [] X.env:=by rfl)
  (g1:(assignEach [.Name xt pt,.Name xp pp] X.env).map (·.2)=assign (.Name xt pt) X.env::(assignEach [.Name xp pp] X.env).map (·.2):=by rfl) (g2:(assignEach [.Name xp pp] X.env).map (·.2)=assign (.Name xp pp) X.env::(assignEach [] X.env).map (·.2):=by rfl)
  (gn:(assignEach [.Name xt pt,.Name xp pp] X.env).length=2:=by rfl) (gs:(assignEach [.Name xt pt,.Name xp pp] X.env).findIdx? (·.1)=none:=by rfl)
  (hs:∀x,foldedSetIterable (.Tuple [.Tuple [.Name x1 p1,e1] k1 q1,.Tuple [.Name x2 p2,e2] k2 q2] k0 q0) X.env x=pure x:=by intro _;rfl):
  N8 X E (.For (.Tuple [.Name xt pt,.Name xp pp] kt pg) (.Tuple [.Tuple [.Name x1 p1,e1] k1 q1,.Tuple [.Name x2 p2,e2] k2 q2] k0 q0) body [] pos) (Nl it ip i1 i2 f1 f2 f):=by
 obtain⟨t1,pe1,qe1⟩:=h1
 obtain⟨t2,pe2,qe2⟩:=h2
 obtain⟨tb,pb,qb⟩:=hb
 refine⟨_,M3 hp hc (Zir (M7 (Qh (M7 (Qh (Z9 n1 v1 d1 c1) (Qh pe1 Xa s1') s1)) (Qh (M7 (Qh (Z9 n2 v2 d2 c2) (Qh pe2 Xa s2') s2)) Xa s4) s3))) (Zb5 hc (Sg (R1 hN nt lt ft) (Sg (R1 hN np lp fp) Ft g2) g1) gn gs) pb hs,fun H0 B Hf sd σ H D sr h=>?_⟩
 unfold Nl at h
 split at h
 ·rename_i o1 o2 eo1 eo2
  split at h
  ·rename_i ho
   rw[Bool.and_eq_true] at ho
   obtain⟨w1,a1,a2⟩:=sr.imS i1 o1 eo1 (Kk ho.1)
   refine⟨w1,a1,qe1 H0 B Hf sd σ H _ sr (PoS.bind sr h fun y1 u1 Hf1 H1 _ g1 sr1 r1 h1=>?_)⟩
   refine⟨by rw[sizeLine_eq];simp,fun a hl=>?_⟩
   have G1:=Gr.alloc g1.sub hl (.tup [w1,u1])
   have sr2:=sr1.gr G1
   obtain⟨w2,b1,b2⟩:=sr2.imS i2 o2 eo2 (Kk ho.2)
   refine⟨w2,b1,qe2 H0 B _ sd σ _ _ sr2 (PoS.bind sr2 (PoS.weak G1.fz h1) fun y2 u2 Hf2 H2 _ g2 sr3 r2 h2=>?_)⟩
   refine⟨by rw[sizeLine_eq];simp,fun b hl2=>?_⟩
   have G2:=Gr.alloc g2.sub hl2 (.tup [w2,u2])
   have sr4:=sr3.gr G2
   refine⟨by rw[sizeLine_eq];simp,fun z hl3=>?_⟩
   have G3:=Gr.alloc sr4.sub hl3 (.tup [V.ref a,V.ref b])
   have sr5:=sr4.gr G3
   have m2:=g2.fz.trans (G2.fz.trans G3.fz)
   have P1:PrV X.K (upd (upd Hf2 b (.tup [w2,u2])) z (.tup [.ref a,.ref b])) (o1,y1) (.ref a):=⟨a,w1,u1,rfl,m2 _ _ Zo,Kk ho.1,(a2.mono (g1.fz.trans G1.fz)).mono m2,(r1.mono G1.fz).mono m2⟩
   have P2:PrV X.K (upd (upd Hf2 b (.tup [w2,u2])) z (.tup [.ref a,.ref b])) (o2,y2) (.ref b):=⟨b,w2,u2,rfl,G3.fz _ _ Zo,Kk ho.2,b2.mono m2,r2.mono (G2.fz.trans G3.fz)⟩
   have hz:(upd (upd Hf2 b (.tup [w2,u2])) z (.tup [V.ref a,V.ref b])) z=some (.tup [V.ref a,V.ref b]):=Zo
   have h3:=PoS.weak (G2.fz.trans G3.fz) h2
   generalize upd (upd Hf2 b (.tup [w2,u2])) z (.tup [.ref a,.ref b])=Hf3 at *
   generalize upd (upd H2 b (.tup [w2,u2])) z (.tup [.ref a,.ref b])=H3 at *
   refine⟨z,rfl,⟨_,SqT.of (sr5.sub _ _ hz)⟩,?_⟩
   refine⟨fun i m σ' H'=>m=2-i/\∃Hf' sd',Same Hf3 Hf'/\SR X.K H0 B Hf' sd' σ' H'/\PoS X.K E H0 B Hf' (Vl it ip f ([(o1,y1),(o2,y2)].drop i) sd') D,⟨2,rfl,Hf3,sd,Same.refl _,sr5,h3⟩,?_⟩
   rintro i m σ' H' ⟨rfl,Hf',sd',e',sr',h'⟩
   have sq:SqT X.K H' z [V.ref a,V.ref b]:=SqT.of (sr'.sub _ _ (e' _ _ hz))
   have one:∀(od:S×DL.D) (v:V) (r:List (S×DL.D)) (n:Nat),[(o1,y1),(o2,y2)].drop i=od::r->[V.ref a,V.ref b][i]?=some v->PrV X.K Hf3 od v->r=[(o1,y1),(o2,y2)].drop (i+1)->2-(i+1)<2-i ->
     (Zkx X.K z).go i H'/\∃N:L2.St->Hp->Prop,(∀σ' H',N σ' H'->∃m',m'<2-i/\(m'=2-(i+1)/\∃Hf' sd',Same Hf3 Hf'/\SR X.K H0 B Hf' sd' σ' H'/\PoS X.K E H0 B Hf' (Vl it ip f ([(o1,y1),(o2,y2)].drop (i+1)) sd') D))/\∀x H'',(Zkx X.K z).yld i H' x H''->Zl4 X.K 2 (Zbb (Fs it) (Zbb (Fs ip) Zld)) x σ' H'' fun σ2 H2=>tb {D with nx:=N,ct:=N,bk:=D.nx} σ2 H2:=fun od v r n ed ev pv er hl=>by
    refine⟨⟨_,_,sq,ev⟩,fun σ' H'=>∃Hf' sd',Same Hf3 Hf'/\SR X.K H0 B Hf' sd' σ' H'/\PoS X.K E H0 B Hf' (Vl it ip f ([(o1,y1),(o2,y2)].drop (i+1)) sd') D,fun σ2 H2 w=>⟨2-(i+1),hl,rfl,w⟩,fun x H'' hy=>?_⟩
    obtain⟨e,hy⟩:=hy
    subst e
    have ex:=hy _ sq
    rw[ev] at ex
    cases ex
    obtain⟨p,va,vb,rfl,q1,q2,q3,q4⟩:=pv.mono e'
    refine .inl ⟨p,[va,vb],rfl,.inl (SqT.of (sr'.sub _ _ q1)),rfl,va,[vb],rfl,vb,[],rfl,rfl,?_⟩
    have sr6:=(sr'.set_st it q2 q3).set_im ip q4
    refine qb H0 B Hf' _ _ H'' _ sr6 ?_
    rw[ed] at h'
    unfold Vl at h'
    cases ef:f ((sd'.set it (some od.1)).set ip (some (.im od.2))) with
    |ok o=>
     rw[ef] at h'
     cases o with
     |nx s'=>rw[<-er];exact fun σ' Hf2 H2 e2 sr2=>⟨Hf2,s',e'.trans e2,sr2,PoS.weak e2 h'⟩
     |ct s'=>rw[<-er];exact fun σ' Hf2 H2 e2 sr2=>⟨Hf2,s',e'.trans e2,sr2,PoS.weak e2 h'⟩
     |bk s'=>exact h'
     |rt s=>exact h'
    |ex x=>rw[ef] at h';exact h'
    |bad=>rw[ef] at h';exact h'
   match i,sq,h',one with
   |0,sq,h',one=>exact .inr (one (o1,y1) (.ref a) [(o2,y2)] 0 rfl rfl P1 rfl (by decide))
   |1,sq,h',one=>exact .inr (one (o2,y2) (.ref b) [] 0 rfl rfl P2 rfl (by decide))
   |i+2,sq,h',one=>
    have h2:PoS X.K E H0 B Hf' (.ok (.nx sd')) D:=by simpa[Vl] using h'
    exact .inl ⟨⟨_,sq,by simp⟩,h2 σ' Hf' H' (Same.refl _) sr'⟩
  ·exact h.elim
 ·exact h.elim
end
def Ex (i:Nat)(fk fd:Zf->M D)(sd:Zf):M D:=match sd[i]? with
 |some (some (.fl _ _ q))=>(fk sd).bind fun k=>(fd sd).bind fun d=>(match k with
  |.tup ds=>(match K9 ds with
   |some ks=>.ok ((Y2 q ks).getD d)
   |none=>.bad)
  |_=>.bad)
 |_=>.bad
section
variable {X:Cx}{E:XK}{pos p p1 p2 apos bpos cpos:Pos}{a key dflt:Expr}{es:List Expr}{x vn m:Str}{k:Nat}{f:Addr}{fd:FuncData}{ps:List Str}{F:List S->M S}
def Zc0 (i:Nat){C:Addr}{fk fd:Zf->M D}(hu:X.A.units+64<cLine) (oc:ObC X.K "Floor" C) (na:NoAttr X.K C "by_square") (hk:Y0 X E key fk) (hf:Y0 X E dflt fd)
  (hN:X.N[i]?=some vn:=by rfl) (hv:Rz X.env.scope vn:=by trivial) (hd:(vn==("__debug__":Str))=false:=by decide) (hcd:(vn==("__classdict__":Str))=false:=by decide)
  (hb:attributeBase (.Name vn p) "by_square" X.env (eval (.Name vn p) X.env)=eval (.Name vn p) X.env:=by rfl) (mm:M2 X (.Attribute (.Name vn p) "by_square" bpos) "get" apos key dflt cpos:=by exact⟨rfl,rfl,rfl,rfl⟩):
  Y0 X E (.Call (.Attribute (.Attribute (.Name vn p) "by_square" bpos) "get" apos) [key,dflt] [] cpos) (Ex i fk fd):=by
 obtain⟨tk,pk,qk⟩:=hk
 obtain⟨td,pd,qd⟩:=hf
 refine⟨_,Zbw (by lia) (U2 (Z9 hN hv hd hcd) hb) pk pd mm,fun H0 B Hf sd σ H Q sr h=>?_⟩
 unfold Ex at h
 split at h
 ·rename_i a g q ei
  obtain⟨v,e1,C',dx,gs,d,kq,ys,rfl,e2,e3,e4,e6,e7⟩:=sr.imS i _ ei rfl
  rw[oc.at_] at e2
  cases e2
  refine⟨.ref a,e1,a,C,dx,gs,.ref d,rfl,sr.sub _ _ e3,oc.cls,na,e4.sq,d,rfl,.inr ⟨ys,.inl (sr.sub _ _ e6)⟩,?_⟩
  refine qk H0 B Hf sd σ H _ sr (Po.bind h fun dk y Hf1 H1 _ g1 ry h1=>?_)
  refine qd H0 B Hf1 sd σ H1 _ (sr.gr g1) (Po.bind h1 fun dd z Hf2 H2 _ g2 rz h2=>?_)
  split at h2
  ·rename_i ds
   split at h2
   ·rename_i ks ek
    obtain⟨b,rfl,hb2⟩:=Bi ek g2.sub (ry.mono g2.fz)
    have r2:=(e7.mono g1.fz).mono g2.fz
    refine⟨_,DGet.t (g2.sub _ _ (g2.fz _ _ (g1.fz _ _ e6))) hb2,?_⟩
    cases eg:Y2 q ks with
    |some d'=>
     obtain⟨v,ev,rv⟩:=r2.get ks eg
     rw[ev]
     rw[eg] at h2
     exact Po.ret (R:=rV X.K) g2.sub h2 rv
    |none=>
     rw[r2.none ks eg]
     rw[eg] at h2
     exact Po.ret (R:=rV X.K) g2.sub h2 rz
   ·exact h2.elim
  ·exact h2.elim
 ·exact h.elim
def S9 (i:Nat)(F:List S->M S)(fs:Zf->M (List D))(sd:Zf):M D:=match sd[i]? with
 |some (some (.fl a g q))=>(fs sd).bind fun ds=>Nj (F (.fl a g q::ds.map S.im))
 |_=>.bad
def Zc1 (i:Nat){C:Addr}{fs:Zf->M (List D)}{pl:Sem Bool} (oc:ObC X.K "Floor" C) (hm:Meth X.K C "people_at" f) (G:FnOk X.prog X.w X.K X.mg X.base Yd k f fd ps (Rh X.K F)) (hr:Room k X.A) (hb:Binds X.K fd ps []) (ha:T3 X E (a::es) fs)
  (hN:X.N[i]?=some vn:=by rfl) (hv:Rz X.env.scope vn:=by trivial) (hd:(vn==("__debug__":Str))=false:=by decide) (hcd:(vn==("__classdict__":Str))=false:=by decide)
  (N3:starEach (a::es) X.env=(false,eval a X.env)::starEach es X.env:=by rfl) (hpl:(backTo pos (starEach es X.env)).any (·.1)=false:=by rfl)
  (ht:eval (.Call (.Attribute (.Name vn p) "people_at" apos) (a::es) [] pos) X.env=(do
   let ov <-eval (.Name vn p) X.env
   standAt apos.atName
   let (f,first) <-holding [ov] (getMethod ov "people_at" pl)
   callWith pos f first (backTo pos (starEach (a::es) X.env)) (backToKw pos (keywordEach [] X.env))):=by rfl):Y0 X E (.Call (.Attribute (.Name vn p) "people_at" apos) (a::es) [] pos) (S9 i F fs):=by
 obtain⟨t,pt,qt⟩:=ha
 refine⟨_,M8 (dvs:=[]) (E:=E0) (pl:=pl) (Z9 hN hv hd hcd) oc.cls hm G hr hb .nil Jh pt N3 hpl ht,fun H0 B Hf sd σ H Q sr h=>?_⟩
 unfold S9 at h
 split at h
 ·rename_i a g q ei
  obtain⟨v,e1,rv⟩:=sr.imS i _ ei rfl
  obtain⟨C',dx,gs,d,kq,ys,rfl,e2,e3,e4,e6,e7⟩:=id rv
  rw[oc.at_] at e2
  cases e2
  refine⟨.ref a,e1,a,dx,gs,rfl,sr.sub _ _ e3,e4.m1,qt H0 B Hf sd σ H _ sr (Po.bind h fun ds vs Hf1 H1 _ g1 rs h1=>?_)⟩
  rw[List.append_nil]
  have ro:RepS X.K Hf1 (.fl a g q) (.ref a):=RepS.mono g1.fz rv
  exact Bl g1.sub (.cons ⟨rfl,ro⟩ (Bm rs)) h1
 ·exact h.elim
end
def Cr (n:Str)(d:D):List (Str×D)->List (Str×D)
 |[]=>[(n,d)]
 |(g,x)::r=>if g=n then(g,d)::r else(g,x)::Cr n d r
def Zc2 {K:PySem.W.Frag}{H:Hp}{r:List (Str×D)}{gs:List (Str×V)}(h:RepKV K H r gs)(n:Str){d:D}{v:V}(rv:Rep K H d v):RepKV K H (Cr n d r) (Yi n v gs):=by
 induction h with
 |nil=>exact .cons ⟨rfl,rv⟩ .nil
 | @cons p q l l' hp ht ih=>
  obtain⟨p1,p2⟩:=p
  obtain⟨q1,q2⟩:=q
  obtain⟨e,rp⟩:=hp
  have e:p1=q1:=e
  subst e
  unfold Cr Yi
  by_cases z:p1=n
  ·rw[if_pos z,if_pos z];exact .cons ⟨rfl,rv⟩ ht
  ·rw[if_neg z,if_neg z];exact .cons ⟨rfl,rp⟩ ih
def Zf9 (K:PySem.W.Frag)(C:Addr)(Hf H:Hp)(a:Addr)(r:List (Str×D)):Prop:=∃dx gs,H a=some (.ins C dx gs)/\RepKV K Hf r gs
def Rv (K:PySem.W.Frag)(C:Addr)(F:List (Str×D)->List D->Option (List (Str×D))):Sp:=fun vs H Q _=>∃Hf r ds a rest r',vs=.ref a::rest/\Same Hf H/\Hf a=none/\Zf9 K C Hf H a r/\Reps K Hf ds rest/\F r ds=some r' /\
 ∀Hf' H',GrM a Hf H Hf' H'->Zf9 K C Hf' H' a r'->Q .non H'
theorem GrM.refl {a:Addr}{Hf H:Hp}(e:Same Hf H):GrM a Hf H Hf H:=⟨Same.refl _,e,fun _ _ _ q=>q,fun _ _ q=>q⟩
theorem GrM.trans {a:Addr}{Hf H Hf1 H1 Hf2 H2:Hp}(x:GrM a Hf H Hf1 H1)(y:GrM a Hf1 H1 Hf2 H2)(hl:Lv H a->Lv H1 a):GrM a Hf H Hf2 H2:=
 ⟨x.fz.trans y.fz,y.sub,fun b u hb q=>y.all b u hb (x.all b u hb q),fun b hb hn=>y.ban b (by
  by_cases e:b=a
  ·subst e;exact hl hb
  ·obtain⟨o,ho,n⟩:=hb
   exact⟨o,x.all b o e ho,n⟩) (x.ban b hb hn)⟩
def Ta {H:Hp}{a C dx:Addr}{gs:List (Str×V)}(h:H a=some (.ins C dx gs)):Lv H a:=⟨_,h,fun _ q=>by cases q⟩
def GrM.of_gr {a:Addr}{Hf H Hf' H':Hp}(g:Gr Hf H Hf' H'):GrM a Hf H Hf' H':=⟨g.fz,g.sub,fun b u _ q=>g.all b u q,g.ban⟩
structure TkC (K:PySem.W.Frag) (C:Addr):Prop where
 oc:ObC K "Track" C
 n1:NoAttr K C "begin"
 n2:NoAttr K C "square"
 n3:NoAttr K C "heading"
 n4:NoAttr K C "due"
 n5:NoAttr K C "lap"
def Zoc (r:List (Str×D))(n:Str):Option Int:=match r.lookup n with
 |some (.int i)=>some i
 |_=>none
def Zju {K:PySem.W.Frag}{H:Hp}{r:List (Str×D)}{gs:List (Str×V)}(h:RepKV K H r gs){n:Str}{i:Int}(e:Zoc r n=some i):gs.lookup n=some (.int i):=by
 unfold Zoc at e
 split at e
 ·rename_i j ej
  cases e
  have k:=Nk h n
  rw[ej] at k
  obtain⟨v,e1,e2⟩:=k
  rw[rep_int] at e2
  rw[e1,e2]
 ·cases e
structure ISt (K:PySem.W.Frag) (C a:Addr) (H0:Hp) (B:Addr->Prop) (Hb Hf:Hp) (sd:Zf) (σ:L2.St) (H:Hp) (r:List (Str×D)):Prop where
 fb:Same Hb Hf
 sr:SR K H0 B Hf sd σ H
 s0:σ[0]?=some (some (.ref a))
 h0:H0 a=none
 hf:Hf a=none
 im:∀(i:Nat) (t:S),sd[i]?=some (some t)->t.own=false
 at_:Zf9 K C Hf H a r
section
variable {K:PySem.W.Frag}{C a:Addr}{H0:Hp}{B:Addr->Prop}{Hb Hf H Hf' H':Hp}{sd:Zf}{σ:L2.St}{r:List (Str×D)}
theorem ISt.gr (x:ISt K C a H0 B Hb Hf sd σ H r)(g:Gr Hf H Hf' H'):ISt K C a H0 B Hb Hf' sd σ H' r:=by
 obtain⟨dx,gs,e1,e2⟩:=x.at_
 exact⟨x.fb.trans g.fz,x.sr.gr g,x.s0,x.h0,g.ban a (Ta e1) x.hf,x.im,dx,gs,g.all _ _ e1,e2.mono g.fz⟩
theorem ISt.upd (x:ISt K C a H0 B Hb Hf sd σ H r){dx:Addr}{gs:List (Str×V)}{r':List (Str×D)}(h:RepKV K Hf r' gs):ISt K C a H0 B Hb Hf sd σ (L2.upd H a (.ins C dx gs)) r':=by
 have sr:=x.sr
 refine⟨x.fb,⟨fun b u q=>?_,fun b u q=>?_,sr.ban,sr.bt,sr.len,sr.imS,fun i t e o=>?_,fun i j t u p hij e1 o1 _ _ _ _=>?_⟩,x.s0,x.h0,x.hf,x.im,dx,gs,Zo,h⟩
 ·rw[Zm (Zw q x.hf)];exact sr.sub b u q
 ·rw[Zm (Zw q x.h0)];exact sr.all b u q
 ·rw[x.im i t e] at o;cases o
 ·rw[x.im i t e1] at o1;cases o1
theorem ISt.set (x:ISt K C a H0 B Hb Hf sd σ H r)(i:Nat)(hi:i≠0){d:D}{v:V}(h:Rep K Hf d v):ISt K C a H0 B Hb Hf (sd.set i (some (.im d))) (σ.set i (some v)) H r:=by
 refine⟨x.fb,x.sr.set_im i h,(Zob hi).trans x.s0,x.h0,x.hf,fun j t e=>?_,x.at_⟩
 by_cases hj:i=j
 ·subst hj
  have hl:i<sd.length:=by
   have:=(List.getElem?_eq_some_iff.mp e).1
   simpa using this
  rw[List.getElem?_set_self hl] at e
  cases e
  rfl
 ·rw[List.getElem?_set_ne hj] at e
  exact x.im j t e
end
def Mi {K:PySem.W.Frag}{N:List Str}{C:Addr}{Hf H:Hp}{r:List (Str×D)}{ds:List D}{a:Addr}{vs:List V}{m:Nat}(e:Same Hf H)(ea:Hf a=none)(ta:Zf9 K C Hf H a r)(rs:Reps K Hf ds vs)(hN:N.length=ds.length+1+m):
  ISt K C a (Gj H a) (fun b=>Lv (Gj H a) b/\Hf b=none) Hf Hf (none::(ds.map (fun d=>some (S.im d))++List.replicate m none)) (L2.Xu N (.ref a::vs)) H r:=by
 have hlen:=rs.length
 have es:L2.Xu N (V.ref a::vs)=some (V.ref a)::(vs.map some++List.replicate m none):=by
  unfold L2.Xu
  rw[List.map_cons,List.cons_append,show N.length-(V.ref a::vs).length=m by rw[List.length_cons];lia]
 rw[es]
 have tl:∀(i:Nat) (t:S),(none::(ds.map (fun d=>some (S.im d))++List.replicate m none))[i]?=some (some t)->t.own=false/\∃v,(some (V.ref a)::(vs.map some++List.replicate m none))[i]?=some (some v)/\RepS K Hf t v:=fun i t h=>by
  cases i with
  |zero=>rw[List.getElem?_cons_zero] at h;cases h
  |succ i=>
   rw[List.getElem?_cons_succ] at h ⊢
   by_cases hl:i<ds.length
   ·rw[List.getElem?_append_left (by simpa using hl),List.getElem?_map] at h
    cases q:ds[i]? with
    |none=>rw[q] at h;cases h
    |some d=>
     rw[q] at h
     cases h
     obtain⟨y,e1,e2⟩:=rs.get q
     have:i<vs.length:=(List.getElem?_eq_some_iff.mp e1).1
     exact⟨rfl,y,by rw[List.getElem?_append_left (by simpa using this),List.getElem?_map,e1];rfl,e2⟩
   ·rw[List.getElem?_append_right (by simpa using hl),List.getElem?_replicate] at h
    split at h<;>cases h
 refine⟨Same.refl _,⟨e,Va H a,fun _ h=>h.2,fun _ h=>h.1,by simp[hlen],fun i t h _=>(tl i t h).2,fun i t h ho=>?_,fun i j t u p hij h ho h' ho' _ _=>?_⟩,rfl,Vb H a,ea,fun i t h=>(tl i t h).1,ta⟩
 ·rw[(tl i t h).1] at ho;cases ho
 ·rw[(tl i t h).1] at ho;cases ho
def ISt.back {K:PySem.W.Frag}{C a:Addr}{Hf H Hf' H':Hp}{sd:Zf}{σ:L2.St}{r:List (Str×D)}(x:ISt K C a (Gj H a) (fun b=>Lv (Gj H a) b/\Hf b=none) Hf Hf' sd σ H' r):GrM a Hf H Hf' H':=by
 refine⟨x.fb,x.sr.sub,fun b u hb hu=>x.sr.all b u ((Jm hb).trans hu),fun b hb hn=>?_⟩
 by_cases hba:b=a
 ·subst hba;exact x.hf
 ·obtain⟨o,ho,hno⟩:=hb
  exact x.sr.ban b ⟨⟨o,(Jm hba).trans ho,hno⟩,hn⟩
abbrev Qw:=List (Str×D)
def Ey (X:Cx)(C:Addr)(e:Expr)(g:Zf->Qw->M D):Prop:=
 ∃t:TE,PE X e t/\∀(a:Addr) (H0:Hp) (B:Addr->Prop) (Hb Hf:Hp) (sd:Zf) (σ:L2.St) (H:Hp) (r:Qw) (Q:VK),ISt X.K C a H0 B Hb Hf sd σ H r->Po X.K E0 (rV X.K) Hf H (g sd r) Q->t σ H Q
def Znd (X:Cx)(C:Addr)(e:Expr)(g:Zf->Qw->M Bool):Prop:=
 ∃t:TT,PT X e t/\∀(a:Addr) (H0:Hp) (B:Addr->Prop) (Hb Hf:Hp) (sd:Zf) (σ:L2.St) (H:Hp) (r:Qw) (Q:Bool->Hp->Prop),ISt X.K C a H0 B Hb Hf sd σ H r->Po X.K E0 rQ Hf H (g sd r) Q->t σ H Q
def Zod (K:PySem.W.Frag)(C a:Addr)(H0:Hp)(B:Addr->Prop)(Hb:Hp)(o:Option (Zf×Qw))(D':Ends):Prop:=match o with
 |some x=>∀σ' Hf' H',ISt K C a H0 B Hb Hf' x.1 σ' H' x.2->D'.nx σ' H'
 |none=>False
def Zjv (X:Cx)(C:Addr)(st:Stmt)(g:Zf->Qw->Option (Zf×Qw)):Prop:=
 ∃t:TS,PS X st t/\∀(a:Addr) (H0:Hp) (B:Addr->Prop) (Hb Hf:Hp) (sd:Zf) (σ:L2.St) (H:Hp) (r:Qw) (D':Ends),ISt X.K C a H0 B Hb Hf sd σ H r->Zod X.K C a H0 B Hb (g sd r) D'->t D' σ H
def Ez (X:Cx)(C:Addr)(st:List Stmt)(g:Zf->Qw->Option (Zf×Qw)):Prop:=
 ∃t:TS,PSs X st t/\∀(a:Addr) (H0:Hp) (B:Addr->Prop) (Hb Hf:Hp) (sd:Zf) (σ:L2.St) (H:Hp) (r:Qw) (D':Ends),ISt X.K C a H0 B Hb Hf sd σ H r->Zod X.K C a H0 B Hb (g sd r) D'->t D' σ H
def Zoe {α:Type}:M α->Option α
 |.ok a=>some a
 |_=>none
def Zjw (sd:Zf)(r:Qw):Option (Zf×Qw):=some (sd,r)
def Vc (f g:Zf->Qw->Option (Zf×Qw))(sd:Zf)(r:Qw):Option (Zf×Qw):=(f sd r).bind fun x=>g x.1 x.2
def Zer (c:Zf->Qw->M Bool)(f g:Zf->Qw->Option (Zf×Qw))(sd:Zf)(r:Qw):Option (Zf×Qw):=(Zoe (c sd r)).bind fun b=>if b then f sd r else g sd r
def Pq (n:Str)(e:Zf->Qw->M D)(sd:Zf)(r:Qw):Option (Zf×Qw):=(Zoe (e sd r)).bind fun d=>if r.length<=900 then some (sd,Cr n d r) else none
def Zab (i:Nat)(e:Zf->Qw->M D)(sd:Zf)(r:Qw):Option (Zf×Qw):=(Zoe (e sd r)).bind fun d=>some (sd.set i (some (.im d)),r)
def Zc3 (n:Str)(e:Zf->Qw->M D)(sd:Zf)(r:Qw):Option (Zf×Qw):=match Zoc r n,e sd r with
 |some i,.ok (.int j)=>if r.length<=900 then some (sd,Cr n (.int (i+j)) r) else none
 |_,_=>none
def Hi (m:Str)(F:Qw->List D->Option Qw)(sd:Zf)(r:Qw):Option (Zf×Qw):=if r.lookup m=none then(F r []).map fun r'=>(sd,r') else none
def Ku (f:Zf->M D)(sd:Zf)(_:Qw):M D:=f sd
def Ux (n:Str)(_:Zf)(r:Qw):M D:=match r.lookup n with
 |some d=>.ok d
 |none=>.bad
def D2 (g:D->D->M D)(fa fb:Zf->Qw->M D)(sd:Zf)(r:Qw):M D:=(fa sd r).bind fun x=>(fb sd r).bind fun y=>g x y
def Zga (c:Zf->Qw->M Bool)(fa fb:Zf->Qw->M D)(sd:Zf)(r:Qw):M D:=(c sd r).bind fun b=>if b then fa sd r else fb sd r
def gB (f:Zf->Qw->M D)(sd:Zf)(r:Qw):M Bool:=(f sd r).bind asB
section
variable {X:Cx}{C:Addr}{pos pos' p p1 apos tpos:Pos}{e e1 e2:Expr}{x vn n m:Str}
def Xe {f:Zf->M D}(h:Y0 X E0 e f):Ey X C e (Ku f):=by
 obtain⟨t,pt,q⟩:=h
 exact⟨t,pt,fun a H0 B Hb Hf sd σ H r Q x h=>q H0 B Hf sd σ H Q x.sr h⟩
def Uf (cl:Cls X.K C)(na:NoAttr X.K C n)(hN:X.N[0]?=some vn:=by rfl)(hv:Rz X.env.scope vn:=by trivial) (hd:(vn==("__debug__":Str))=false:=by decide)
  (hcd:(vn==("__classdict__":Str))=false:=by decide) (hb:attributeBase (.Name vn p) n X.env (eval (.Name vn p) X.env)=eval (.Name vn p) X.env:=by rfl):Ey X C (.Attribute (.Name vn p) n pos) (Ux n):=by
 refine⟨_,U2 (Z9 hN hv hd hcd) hb,fun a H0 B Hb Hf sd σ H r Q x h=>?_⟩
 obtain⟨dx,gs,e1,e2⟩:=x.at_
 have k:=Nk e2 n
 unfold Ux at h
 split at h
 ·rename_i d ed
  rw[ed] at k
  obtain⟨v,l,rv⟩:=k
  exact⟨.ref a,x.s0,a,C,dx,gs,v,rfl,e1,cl,na,l,Po.ret (R:=rV X.K) x.sr.sub h rv⟩
 ·exact h.elim
def Zme {fa fb:Zf->Qw->M D}{g:D->D->M D}{ta tb:TE}{rr:R2}{a:Addr}{H0:Hp}{B:Addr->Prop}{Hb Hf:Hp}{sd:Zf}{σ:L2.St}{H:Hp}{r:Qw}{Q:VK}(qa:∀(a:Addr) (H0:Hp) (B:Addr->Prop) (Hb Hf:Hp) (sd:Zf) (σ:L2.St) (H:Hp) (r:Qw) (Q:VK),ISt X.K C a H0 B Hb Hf sd σ H r->Po X.K E0 (rV X.K) Hf H (fa sd r) Q->ta σ H Q)(qb:∀(a:Addr) (H0:Hp) (B:Addr->Prop) (Hb Hf:Hp) (sd:Zf) (σ:L2.St) (H:Hp) (r:Qw) (Q:VK),ISt X.K C a H0 B Hb Hf sd σ H r->Po X.K E0 (rV X.K) Hf H (fb sd r) Q->tb σ H Q)(hr:∀(Hf H:Hp) (x y:V) (dx dy:D) (Q:VK),Same Hf H->Rep X.K Hf dx x->Rep X.K Hf dy y->Po X.K E0 (rV X.K) Hf H (g dx dy) Q->rr x y H Q)(x:ISt X.K C a H0 B Hb Hf sd σ H r)(h:Po X.K E0 (rV X.K) Hf H (D2 g fa fb sd r) Q):Zky rr ta tb σ H Q:=by
 refine qa a H0 B Hb Hf sd σ H r _ x (Po.bind h fun d1 v1 Hf1 H1 _ g1 r1 h1=>?_)
 refine qb a H0 B Hb Hf1 sd σ H1 r _ (x.gr g1) (Po.bind h1 fun d2 v2 Hf2 H2 _ g2 r2 h2=>?_)
 exact hr Hf2 H2 v1 v2 d1 d2 Q g2.sub (Rep.mono g2.fz r1) r2 h2
def Zc4 {op:Operator}{g:D->D->M D}{fa fb:Zf->Qw->M D}(ho:N9 X E0 (binaryOp op) g)(ha:Ey X C e1 fa)(hb:Ey X C e2 fb):Ey X C (.BinOp e1 op e2 pos) (D2 g fa fb):=by
 obtain⟨r,hr,qr⟩:=ho
 obtain⟨ta,pa,qa⟩:=ha
 obtain⟨tb,pb,qb⟩:=hb
 exact⟨_,Zbd hr pa pb,fun a H0 B Hb Hf sd σ H r Q x h=>Zme qa qb qr x h⟩
def Zou (g:D->M D)(fa:Zf->Qw->M D)(sd:Zf)(r:Qw):M D:=(fa sd r).bind g
def Zjx {op:UnaryOp}{g:D->M D}{fa:Zf->Qw->M D}(ho:Zn7 X E0 (unaryOp op) g)(ha:Ey X C e1 fa):Ey X C (.UnaryOp op e1 pos) (Zou g fa):=by
 obtain⟨r,hr,qr⟩:=ho
 obtain⟨ta,pa,qa⟩:=ha
 refine⟨_,Zbe hr pa,fun a H0 B Hb Hf sd σ H r Q x h=>?_⟩
 refine qa a H0 B Hb Hf sd σ H r _ x (Po.bind h fun d v Hf1 H1 _ g1 rv h1=>?_)
 exact qr Hf1 H1 v d Q g1.sub rv h1
def Hj {op:CmpOp}{g:D->D->M D}{fa fb:Zf->Qw->M D}(ho:N9 X E0 (compareOp op) g)(ha:Ey X C e1 fa)(hb:Ey X C e2 fb)(hm:behindInMarks op e2=false):Znd X C (.Compare e1 [op] [e2] pos) (gB (D2 g fa fb)):=by
 obtain⟨r,hr,qr⟩:=ho
 obtain⟨ta,pa,qa⟩:=ha
 obtain⟨tb,pb,qb⟩:=hb
 refine⟨_,M4 hr pa pb hm,fun a H0 B Hb Hf sd σ H r Q x h=>?_⟩
 refine Zme qa qb qr x (Po.bind h fun d v Hf1 H1 _ g1 rv h1=>?_)
 unfold asB at h1
 split at h1
 ·exact⟨_,rep_bl.mp rv,Po.ret (R:=rQ) g1.sub h1 rfl⟩
 ·exact h1.elim
def Hl {f:Zf->M Bool}(h:Lz X E0 e f):Znd X C e (fun sd _=>f sd):=by
 obtain⟨t,pt,q⟩:=h
 exact⟨t,pt,fun a H0 B Hb Hf sd σ H r Q x h=>q H0 B Hf sd σ H Q x.sr h⟩
def Zjy {c:Zf->Qw->M Bool}{fa fb:Zf->Qw->M D}{ce:Expr}(hc:Znd X C ce c)(ha:Ey X C e1 fa)(hb:Ey X C e2 fb):Ey X C (.IfExp ce e1 e2 pos) (Zga c fa fb):=by
 obtain⟨tc,pc,qc⟩:=hc
 obtain⟨ta,pa,qa⟩:=ha
 obtain⟨tb,pb,qb⟩:=hb
 refine⟨_,Au pc pa pb,fun a H0 B Hb Hf sd σ H r Q x h=>?_⟩
 refine qc a H0 B Hb Hf sd σ H r _ x (Po.bind (R:=rQ) h fun b v Hf1 H1 _ g1 rv h1=>?_)
 have e:b=v:=rv
 subst e
 cases b with
 |true=>rw[if_pos rfl] at h1 ⊢;exact qa a H0 B Hb Hf1 sd σ H1 r Q (x.gr g1) h1
 |false=>rw[if_neg Bool.false_ne_true] at h1 ⊢;exact qb a H0 B Hb Hf1 sd σ H1 r Q (x.gr g1) h1
def Hm:Ez X C [] Zjw:=⟨_,R0,fun _ _ _ _ Hf _ _ _ _ _ x h=>h _ Hf _ x⟩
def Vm {st:Stmt}{g:Zf->Qw->Option (Zf×Qw)}(h:Zjv X C st g):Ez X C [st] g:=by
 obtain⟨t,pt,q⟩:=h
 exact⟨t,X1 pt,q⟩
def Xk {st:Stmt}{rest:List Stmt}{f g:Zf->Qw->Option (Zf×Qw)}(h:Zjv X C st f)(h2:Ez X C rest g):Ez X C (st::rest) (Vc f g):=by
 obtain⟨t,pt,q⟩:=h
 obtain⟨t2,pt2,q2⟩:=h2
 refine⟨_,Qj pt pt2,fun a H0 B Hb Hf sd σ H r D' x h=>?_⟩
 refine q a H0 B Hb Hf sd σ H r _ x ?_
 unfold Vc at h
 cases e:f sd r with
 |none=>rw[e] at h;exact h.elim
 |some y=>
  rw[e] at h
  exact fun σ' Hf' H' x'=>q2 a H0 B Hb Hf' y.1 σ' H' y.2 D' x' h
def E1 {c:Expr}{xs ys:List Stmt}{k:Zf->Qw->M Bool}{f g:Zf->Qw->Option (Zf×Qw)}(hc:Znd X C c k)(h:Ez X C xs f)(h2:Ez X C ys g):Zjv X C (.If c xs ys pos) (Zer k f g):=by
 obtain⟨t,pt,q⟩:=hc
 obtain⟨t1,pt1,q1⟩:=h
 obtain⟨t2,pt2,q2⟩:=h2
 refine⟨_,Fq pt pt1 pt2,fun a H0 B Hb Hf sd σ H r D' x h=>?_⟩
 refine q a H0 B Hb Hf sd σ H r _ x ?_
 unfold Zer at h
 cases ek:k sd r with
 |ok b=>
  rw[ek] at h
  intro v Hf1 H1 g1 rv
  have e:b=v:=rv
  subst e
  cases b with
  |true=>exact q1 a H0 B Hb Hf1 sd σ H1 r D' (x.gr g1) h
  |false=>exact q2 a H0 B Hb Hf1 sd σ H1 r D' (x.gr g1) h
 |ex z=>rw[ek] at h;exact h.elim
 |bad=>rw[ek] at h;exact h.elim
def Kv {g:Zf->Qw->M D}(cl:Cls X.K C)(na:NoAttr X.K C n)(he:Ey X C e g)(hN:X.N[0]?=some vn:=by rfl)(hv:Rz X.env.scope vn:=by trivial) (hd:(vn==("__debug__":Str))=false:=by decide)
  (hcd:(vn==("__classdict__":Str))=false:=by decide) (hs:swapsWith e (some (.Attribute (.Name vn p) n pos')) pos.line X.env=pure false:=by rfl):Zjv X C (.Assign [.Attribute (.Name vn p) n pos'] e pos) (Pq n g):=by
 obtain⟨t,pt,q⟩:=he
 refine⟨_,M6 (Z9 hN hv hd hcd) pt hs,fun a H0 B Hb Hf sd σ H r D' x h=>?_⟩
 refine q a H0 B Hb Hf sd σ H r _ x ?_
 unfold Pq at h
 cases ek:g sd r with
 |ok d=>
  rw[ek] at h
  intro v Hf1 H1 g1 rv
  have y:=x.gr g1
  obtain⟨dx,gs,e1,e2⟩:=y.at_
  have hl:=RepKV.length e2
  have h:Zod X.K C a H0 B Hb (if r.length<=900 then some (sd,Cr n d r) else none) D':=h
  split at h
  ·exact⟨.ref a,x.s0,a,C,dx,gs,rfl,e1,cl,na,by lia,h σ Hf1 _ (y.upd (Zc2 e2 n rv))⟩
  ·exact h.elim
 |ex z=>rw[ek] at h;exact h.elim
 |bad=>rw[ek] at h;exact h.elim
def Hn (i:Nat){g:Zf->Qw->M D}(hN:X.N.Nodup)(he:Ey X C e g)(h0:i≠0:=by decide)(hi:X.N[i]?=some x:=by rfl)(hx:Za8 X.env.scope x:=by trivial)(hs:swapsWith e (some (.Name x pos')) pos.line X.env=pure false:=by rfl)(hf:X.fn x=true\/X.env.scope.names.lookup x=some .local:=by first|exact .inl rfl|exact .inr rfl|assumption):Zjv X C (.Assign [.Name x pos'] e pos) (Zab i g):=by
 obtain⟨t,pt,q⟩:=he
 refine⟨_,Vr hN hi hx pt hs hf,fun a H0 B Hb Hf sd σ H r D' x h=>?_⟩
 refine q a H0 B Hb Hf sd σ H r _ x ?_
 unfold Zab at h
 cases ek:g sd r with
 |ok d=>
  rw[ek] at h
  intro v Hf1 H1 g1 rv
  exact h _ Hf1 H1 ((x.gr g1).set i h0 rv)
 |ex z=>rw[ek] at h;exact h.elim
 |bad=>rw[ek] at h;exact h.elim
def Bn {g:Zf->Qw->M D}(cl:Cls X.K C)(na:NoAttr X.K C n)(he:Ey X C e g)(hN:X.N[0]?=some vn:=by rfl)(hv:Rz X.env.scope vn:=by trivial) (hd:(vn==("__debug__":Str))=false:=by decide)
  (hcd:(vn==("__classdict__":Str))=false:=by decide):Zjv X C (.AugAssign (.Attribute (.Name vn p) n tpos) .Add e pos) (Zc3 n g):=by
 obtain⟨t,pt,q⟩:=he
 refine⟨_,Oo (Z9 hN hv hd hcd) pt Ziw,fun a H0 B Hb Hf sd σ H r D' x h=>?_⟩
 unfold Zc3 at h
 split at h
 ·rename_i i j ei ej
  obtain⟨dx,gs,e1,e2⟩:=x.at_
  refine⟨.ref a,x.s0,a,C,dx,gs,.int i,rfl,e1,cl,na,Zju e2 ei,q a H0 B Hb Hf sd σ H r _ x ?_⟩
  rw[ej]
  intro v Hf1 H1 g1 rv
  have y:=x.gr g1
  obtain⟨dx',gs',e1',e2'⟩:=y.at_
  have hl:=RepKV.length e2'
  split at h
  ·exact⟨i,j,rfl,rep_int.mp rv,dx',gs',e1',by lia,h σ Hf1 _ (y.upd (Zc2 e2' n (rep_int.mpr rfl)))⟩
  ·exact h.elim
 ·exact h.elim
end
def Zes (n m:Nat)(g:Zf->Qw->Option (Zf×Qw))(r:Qw)(ds:List D):Option Qw:=if ds.length=n then(g (none::(ds.map (fun d=>some (S.im d))++List.replicate m none)) r).map (·.2) else none
def Zgb {P:Program}{w:World}{K:PySem.W.Frag}{mg:Str->Option Value}{base:Heap}{x qual:Str}{st:Stmt}{f C:Addr}{fd:FuncData}{N ps:List Str}{k m n:Nat}{fb:Zf->Qw->Option (Zf×Qw)}(F:Fun K x qual st f fd)(sc:FnScope N ps (Zi st))(hn:ps.length=n+1)(hN:N.length=n+1+m)(hbody:∀(cdv:Value) (A:Around) (outer:List Env) (s:Shared) (H:Hp) (E:XK),Room k (A.deeper (envOfC qual (Zi st) s.heap.objs.size f cdv)) ->
   Ez (X5 Yd P w K mg base N qual (Zi st) f cdv A outer s H E).nox C (Y5 st) fb):FnOk P w K mg base Yd (k+1) f fd ps (Rv K C (Zes n m fb)):=by
 refine F.ok sc (fun vs H Q E h=>?_) (fun cdv A outer s H vs Q E hr h=>?_)
 ·obtain⟨Hf,r,ds,a,rest,r',rfl,e,ea,ta,rs,hF,q⟩:=h
  unfold Zes at hF
  split at hF
  ·rename_i hl
   rw[List.length_cons,<-rs.length,hl,hn]
  ·cases hF
 ·obtain⟨Hf,r,ds,a,rest,r',rfl,e,ea,ta,rs,hF,q⟩:=h
  obtain⟨t,p,qt⟩:=hbody cdv A outer s H E hr
  unfold Zes at hF
  split at hF
  ·rename_i hl
   obtain⟨y,ey,er⟩:=Option.map_eq_some_iff.mp hF
   refine⟨t,p,qt a _ _ Hf Hf _ (L2.Xu N (.ref a::rest)) H r _ (Mi (N:=N) (m:=m) e ea ta rs (by lia)) ?_⟩
   rw[ey]
   intro σ' Hf' H' x'
   rw[er] at x'
   exact q Hf' H' x'.back x'.at_
  ·cases hF
section
variable {X:Cx}{C:Addr}{pos p apos spos:Pos}{vn m:Str}{k:Nat}{f:Addr}{fd:FuncData}{ps:List Str}{F:Qw->List D->Option Qw}
def Cs {pl:Sem Bool}(cl:Cls X.K C)(hm:Meth X.K C m f)(G:FnOk X.prog X.w X.K X.mg X.base Yd k f fd ps (Rv X.K C F))(hr:Room k X.A)(hb:Binds X.K fd ps [])(hN:X.N[0]?=some vn:=by rfl)(hv:Rz X.env.scope vn:=by trivial) (hd:(vn==("__debug__":Str))=false:=by decide) (hcd:(vn==("__classdict__":Str))=false:=by decide)
  (ht:eval (.Call (.Attribute (.Name vn p) m apos) [] [] pos) X.env=(do
   let ov <-eval (.Name vn p) X.env
   standAt apos.atName
   let (f,first) <-holding [ov] (getMethod ov m pl)
   callWith pos f first (backTo pos (starEach [] X.env)) (backToKw pos (keywordEach [] X.env))):=by rfl)
  (hs:swapsWith (.Call (.Attribute (.Name vn p) m apos) [] [] pos) none spos.line X.env=pure false:=by rfl):Zjv X C (.Expr (.Call (.Attribute (.Name vn p) m apos) [] [] pos) spos) (Hi m F):=by
 refine⟨_,V6 (Ax (dvs:=[]) (E:=E0) (pl:=pl) (Z9 hN hv hd hcd) cl hm G hr hb .nil Jh ht) hs,fun a H0 B Hb Hf sd σ H r D' x h=>?_⟩
 unfold Hi at h
 split at h
 ·rename_i hl
  obtain⟨dx,gs,e1,e2⟩:=x.at_
  have kl:=Nk e2 m
  rw[hl] at kl
  cases eF:F r [] with
  |none=>rw[eF] at h;exact h.elim
  |some r'=>
   rw[eF] at h
   refine⟨.ref a,x.s0,a,dx,gs,rfl,e1,kl,Hf,r,[],a,[],r',rfl,x.sr.sub,x.hf,⟨dx,gs,e1,e2⟩,Reps.nil,eF,fun Hf' H' g ta=>?_⟩
   have sr:=x.sr
   refine h σ Hf' H' ⟨x.fb.trans g.fz,⟨g.sub,fun b u q=>g.all b u (Zw q x.h0) (sr.all b u q),fun b hb=>g.ban b (sr.all.lv (sr.bt b hb)) (sr.ban b hb),sr.bt,sr.len,fun i t e z=>?_,fun i t e o=>?_,fun i j t u p hij e1 o1 _ _ _ _=>?_⟩,x.s0,x.h0,g.ban a (Ta e1) x.hf,x.im,ta⟩
   ·obtain⟨v,z1,z2⟩:=sr.imS i t e z
    exact⟨v,z1,z2.mono g.fz⟩
   ·rw[x.im i t e] at o;cases o
   ·rw[x.im i t e1] at o1;cases o1
 ·exact h.elim
end
section
variable {K:PySem.W.Frag}{H:Hp}{a:Addr}{o:HO}
def Zgc (o:HO):Prop:=(∀xs:List V,o≠HO.tup xs)/\(∀xs:List V,o≠HO.lst xs)/\∀(u:Obj) (v:HO),o≠HO.frz u v
def Jn {C dx:Addr}{gs:List (Str×V)}:Zgc (.ins C dx gs):=⟨fun _ z=>HO.noConfusion z,fun _ z=>HO.noConfusion z,fun _ _ z=>HO.noConfusion z⟩
def Ho {b:Addr}{u:HO}(h:H a=some o)(e:H b=some u)(ne:u≠o):Gj H a b=some u:=by
 rw[Jm fun z=>by subst z;rw[h] at e;cases e;exact ne rfl]
 exact e
mutual
theorem Rep.rm (h:H a=some o)(n:Zgc o):∀{d:D}{v:V},Rep K H d v->Rep K (Gj H a) d v
 |.non,_,q=>by unfold Rep at q ⊢;exact q
 |.bl _,_,q=>by unfold Rep at q ⊢;exact q
 |.int _,_,q=>by unfold Rep at q ⊢;exact q
 |.str _,_,q=>by unfold Rep at q ⊢;exact q
 |.tup ds,_,q=>by
  unfold Rep at q ⊢
  obtain⟨b,xs,e1,e2,e3⟩:=q
  exact⟨b,xs,e1,Ho h e2 (Ne.symm (n.1 xs)),Reps.rm h n e3⟩
 |.lst ds,_,q=>by
  unfold Rep at q ⊢
  obtain⟨b,xs,e1,e2,e3⟩:=q
  refine⟨b,xs,e1,?_,Reps.rm h n e3⟩
  rcases e2 with(z|⟨u,z⟩)|z
  ·exact .inl (.inl (Ho h z (Ne.symm (n.2.1 xs))))
  ·exact .inl (.inr ⟨u,Ho h z (Ne.symm (n.2.2 _ _))⟩)
  ·exact .inr z
theorem Reps.rm (h:H a=some o)(n:Zgc o):∀{ds:List D}{xs:List V},Reps K H ds xs->Reps K (Gj H a) ds xs
 |[],_,q=>by unfold Reps at q ⊢;exact q
 |d::ds,_,q=>by
  unfold Reps at q ⊢
  obtain⟨x,r,e1,e2,e3⟩:=q
  exact⟨x,r,e1,Rep.rm h n e2,Reps.rm h n e3⟩
end
theorem RepKV.rm {κ:Type}{l:List (κ×D)}{m:List (κ×V)}(h:H a=some o)(n:Zgc o)(r:RepKV K H l m):RepKV K (Gj H a) l m:=Paired.mapP r fun _ _ q=>⟨q.1,q.2.rm h n⟩
end
def S.adr:S->Option Addr
 |.ob a _ _=>some a
 |.fl a _ _=>some a
 |_=>none
section
variable {K:PySem.W.Frag}{H0 Hf H:Hp}{B:Addr->Prop}{sd:Zf}{σ:L2.St}{a C dx:Addr}{gs:List (Str×V)}
theorem RepS.rm (h:Hf a=some (.ins C dx gs)){t:S}{v:V}(ht:t.adr≠some a)(hx:∀x,t≠.xc x)(q:RepS K Hf t v):RepS K (Gj Hf a) t v:=by
 cases t with
 |im d=>exact Rep.rm h Jn q
 |xc x=>exact absurd rfl (hx x)
 |fn x=>exact q
 |ob b c r=>
  obtain⟨C',dx',gs',e1,e2,e3,e4⟩:=q
  have:b≠a:=fun z=>ht (by rw[z];rfl)
  exact⟨C',dx',gs',e1,e2,(Jm this).trans e3,e4.rm h Jn⟩
 |fl b g q'=>
  obtain⟨C',dx',gs',d,k,ys,e1,e2,e3,e4,e5,e6⟩:=q
  have:b≠a:=fun z=>ht (by rw[z];rfl)
  exact⟨C',dx',gs',d,k,ys,e1,e2,(Jm this).trans e3,⟨let ⟨v,z1,z2⟩:=e4.hall;⟨v,z1,z2.rm h Jn⟩,e4.sq,e4.kn,e4.m1,e4.m2⟩,Ho h e5 (by intro z;cases z),e6.rm h Jn⟩
 |ow ds=>trivial
 |od kvs=>trivial
 |dk kvs=>trivial
def Zmf (h:Hf a=some (.ins C dx gs)){p:Addr}{t:S}(q:S.at K Hf H p t):S.at K (Gj Hf a) H p t:=by
 cases t with
 |im d=>exact q.elim
 |xc x=>exact q.elim
 |fn x=>exact q.elim
 |ob b c r=>exact q.elim
 |fl b g q'=>exact q.elim
 |ow ds=>obtain⟨xs,e1,e2⟩:=q;exact⟨xs,e1,e2.rm h Jn⟩
 |od kvs=>obtain⟨ys,e1,e2⟩:=q;exact⟨ys,e1,e2.rm h Jn⟩
 |dk kvs=>obtain⟨ys,e1,e2⟩:=q;exact⟨ys,e1,e2.rm h Jn⟩
def Ct {p:Addr}{t:S}(q:S.at K Hf H p t)(h:H a=some (.ins C dx gs)):p≠a:=by
 rintro rfl
 cases t with
 |im d=>exact q.elim
 |xc x=>exact q.elim
 |fn x=>exact q.elim
 |ob b c r=>exact q.elim
 |fl b g q'=>exact q.elim
 |ow ds=>obtain⟨xs,e1,_⟩:=q;rw[h] at e1;cases e1
 |od kvs=>obtain⟨ys,e1,_⟩:=q;rw[h] at e1;cases e1
 |dk kvs=>obtain⟨ys,e1,_⟩:=q;rw[h] at e1;cases e1
def SR.fzO (r:SR K H0 B Hf sd σ H){i:Nat}{c:Str}{rr:Qw}(hs:sd[i]?=some none)(hσ:σ[i]?=some (some (.ref a)))(hC:PySem.W.nsIn K mainGlobals c=some (some (.ref C)))(h:H a=some (.ins C dx gs))(rk:RepKV K Hf rr gs)(h0:H0 a=none)(hf:Hf a=none):
  SR K H0 B (upd Hf a (.ins C dx gs)) (sd.set i (some (.ob a c rr))) σ H:=by
 have sm:=Qa hf (.ins C dx gs)
 have hl:i<sd.length:=(List.getElem?_eq_some_iff.mp hs).1
 have back:∀{j:Nat}{w:S},i≠j->(sd.set i (some (S.ob a c rr)))[j]?=some (some w)->sd[j]?=some (some w):=fun {j w} n e=>by rwa[List.getElem?_set_ne n] at e
 have own:∀{j:Nat}{w:S},(sd.set i (some (S.ob a c rr)))[j]?=some (some w)->w.own=true->i≠j:=fun {j w} e o z=>by
  subst z
  rw[List.getElem?_set_self hl] at e
  cases e
  cases o
 refine⟨fun b u q=>?_,r.all,fun b hb=>?_,r.bt,by rw[List.length_set];exact r.len,fun j t e z=>?_,fun j t e o=>?_,fun j k t u p hjk e1 o1 e2 o2 e3 e4=>r.sep j k t u p hjk (back (own e1 o1) e1) o1 (back (own e2 o2) e2) o2 e3 e4⟩
 ·by_cases hb:b=a
  ·subst hb;rw[Zo] at q;rw[h];exact q
  ·rw[Zm hb] at q;exact r.sub b u q
 ·have:b≠a:=fun z=>(r.bt b hb).nn (z▸h0)
  rw[Zm this];exact r.ban b hb
 ·by_cases n:i=j
  ·subst n
   rw[List.getElem?_set_self hl] at e
   cases e
   exact⟨_,hσ,(⟨C,dx,gs,rfl,hC,Zo,rk.mono sm⟩:RepO K _ a c rr (.ref a))⟩
  ·obtain⟨v,e1,e2⟩:=r.imS j t (back n e) z
   exact⟨v,e1,e2.mono sm⟩
 ·obtain⟨p,e1,e2,e3,e4⟩:=r.ow j t (back (own e o) e) o
  exact⟨p,e1,e2,by rw[Zm (Ct e4 h)];exact e3,Wq e4 sm fun _ z=>z⟩
def SR.thO (r:SR K H0 B Hf sd σ H){i:Nat}{c:Str}{rr:Qw}(hs:sd[i]?=some (some (.ob a c rr)))(hu:∀(j:Nat) (t:S),j≠i->sd[j]?=some (some t)->t.adr≠some a/\∀x,t≠.xc x):
  σ[i]?=some (some (.ref a))/\∃C dx gs,PySem.W.nsIn K mainGlobals c=some (some (.ref C))/\H a=some (.ins C dx gs)/\RepKV K (Gj Hf a) rr gs/\SR K H0 B (Gj Hf a) (sd.set i none) σ H:=by
 obtain⟨v,e1,C,dx,gs,rfl,e2,e3,e4⟩:=r.imS i _ hs rfl
 have hl:i<sd.length:=(List.getElem?_eq_some_iff.mp hs).1
 have ne:∀{j:Nat}{w:S},(sd.set i none)[j]?=some (some w)->i≠j:=fun {j w} e z=>by
  subst z
  rw[List.getElem?_set_self hl] at e
  cases e
 have back:∀{j:Nat}{w:S},(sd.set i none)[j]?=some (some w)->sd[j]?=some (some w):=fun {j w} e=>by
  have n:=ne e
  rwa[List.getElem?_set_ne n] at e
 refine⟨e1,C,dx,gs,e2,r.sub _ _ e3,e4.rm e3 Jn,?_⟩
 refine⟨fun b u q=>r.sub b u (Va Hf a b u q),r.all,fun b hb=>?_,r.bt,by rw[List.length_set];exact r.len,fun j t e z=>?_,fun j t e o=>?_,fun j k t u p hjk e1 o1 e2 o2 e3 e4=>r.sep j k t u p hjk (back e1) o1 (back e2) o2 e3 e4⟩
 ·by_cases z:b=a
  ·subst z;exact Vb Hf b
  ·rw[Jm z];exact r.ban b hb
 ·obtain⟨v,z1,z2⟩:=r.imS j t (back e) z
  obtain⟨u1,u2⟩:=hu j t (Ne.symm (ne e)) (back e)
  exact⟨v,z1,z2.rm e3 u1 u2⟩
 ·obtain⟨p,z1,z2,z3,z4⟩:=r.ow j t (back e) o
  refine⟨p,z1,z2,?_,Zmf e3 z4⟩
  by_cases z:p=a
  ·subst z;exact Vb Hf p
  ·rw[Jm z];exact z3
end
def Cu:List D->M D
 |[.int a,.int b]=>.ok (.int (if b > a then b else a))
 |_=>.bad
def Zc5:List D->M D
 |[.int a,.int b,.int c]=>.ok (.int (min (min a b) c))
 |_=>.bad
section
variable {X:Cx}{E:XK}
def Zgd (hc:X.calm=true):Vy X E (.builtin "max") Cu:=by
 refine⟨_,Oj hc,fun Hf H xs ds Q e r q=>?_⟩
 unfold Cu at q
 split at q
 ·rename_i a b
  obtain⟨x,r1,rfl,h1,h2⟩:=reps_cons.mp r
  obtain⟨y,r2,rfl,h3,h4⟩:=reps_cons.mp h2
  rw[reps_nil.mp h4,rep_int.mp h1,rep_int.mp h3]
  exact⟨a,b,rfl,Po.ret (R:=rV X.K) e q (rep_int.mpr rfl)⟩
 ·exact q.elim
def Zac (hc:X.calm=true):CallR X (.builtin "min") (fun xs H Q=>∃a b c,xs=[.int a,.int b,.int c]/\Q (.int (min (min a b) c)) H):=by
 intro pins s σ H xs us Q I r h
 obtain⟨a,b,c,rfl,q⟩:=h
 cases r with
 |cons r1 r=>
  cases r with
  |cons r2 r=>
   cases r with
   |cons r3 r=>
    cases r
    obtain⟨t,rfl⟩:=r1
    obtain⟨u,rfl⟩:=r2
    obtain⟨v,rfl⟩:=r3
    refine min_three_ints (I.ok.hd hc) fun h' tk keep=>?_
    refine⟨.int (min (min a b) c),H,I.kept keep,?_,q⟩
    by_cases h1:b<a
    ·by_cases h2:c<b
     ·simp only[h1,h2,if_true]
      exact⟨_,by rw[show min (min a b) c=c by omega]⟩
     ·simp only[h1,h2,if_true,if_false]
      exact⟨_,by rw[show min (min a b) c=b by omega]⟩
    ·by_cases h2:c<a
     ·simp only[h1,h2,if_true,if_false]
      exact⟨_,by rw[show min (min a b) c=c by omega]⟩
     ·simp only[h1,h2,if_false]
      exact⟨_,by rw[show min (min a b) c=a by omega]⟩
def Zge (hc:X.calm=true):Vy X E (.builtin "min") Zc5:=by
 refine⟨_,Zac hc,fun Hf H xs ds Q e r q=>?_⟩
 unfold Zc5 at q
 split at q
 ·rename_i a b c
  obtain⟨x,r1,rfl,h1,h2⟩:=reps_cons.mp r
  obtain⟨y,r2,rfl,h3,h4⟩:=reps_cons.mp h2
  obtain⟨z,r3,rfl,h5,h6⟩:=reps_cons.mp h4
  rw[reps_nil.mp h6,rep_int.mp h1,rep_int.mp h3,rep_int.mp h5]
  exact⟨a,b,c,rfl,Po.ret (R:=rV X.K) e q (rep_int.mpr rfl)⟩
 ·exact q.elim
end
def FlK (K:PySem.W.Frag)(Hf:Hp)(a:Addr)(g:D)(q:List (List Yo×D))(k:Addr):Prop:=∃C dx gs d ys,PySem.W.nsIn K mainGlobals "Floor"=some (some (.ref C))/\Hf a=some (.ins C dx gs)/\FlG K Hf g d k gs/\Hf d=some (.dT ys)/\RepKV K Hf q ys
theorem FlK.fl {K:PySem.W.Frag}{Hf:Hp}{a k:Addr}{g:D}{q:List (List Yo×D)}(h:FlK K Hf a g q k):RepS K Hf (.fl a g q) (.ref a):=by
 obtain⟨C,dx,gs,d,ys,e1,e2,e3,e4,e5⟩:=h
 exact⟨C,dx,gs,d,k,ys,rfl,e1,e2,e3,e4,e5⟩
theorem FlK.mono {K:PySem.W.Frag}{Hf Hf':Hp}(e:Same Hf Hf'){a k:Addr}{g:D}{q:List (List Yo×D)}(h:FlK K Hf a g q k):FlK K Hf' a g q k:=by
 obtain⟨C,dx,gs,d,ys,e1,e2,e3,e4,e5⟩:=h
 exact⟨C,dx,gs,d,ys,e1,e _ _ e2,e3.mono e,e _ _ e4,e5.mono e⟩
def CaAt (K:PySem.W.Frag)(Fc:List D->M D)(n:Nat)(Hf H:Hp)(k:Addr):Prop:=∃c ys,H k=some (.dT ys)/\RepKV K Hf c ys/\ys.length<=n/\∀ds ks d,K9 ds=some ks->Y2 c ks=some d->Fc ds=.ok d
theorem CaAt.mono {K:PySem.W.Frag}{Fc:List D->M D}{n:Nat}{Hf H Hf' H':Hp}{k:Addr}(e:Same Hf Hf')(he:∀o,H k=some o->H' k=some o)(h:CaAt K Fc n Hf H k):CaAt K Fc n Hf' H' k:=by
 obtain⟨c,ys,e1,e2,e3,e4⟩:=h
 exact⟨c,ys,he _ e1,e2.mono e,e3,e4⟩
def CaAt.le {K:PySem.W.Frag}{Fc:List D->M D}{n m:Nat}{Hf H:Hp}{k:Addr}(hl:n<=m)(h:CaAt K Fc n Hf H k):CaAt K Fc m Hf H k:=by
 obtain⟨c,ys,e1,e2,e3,e4⟩:=h
 exact⟨c,ys,e1,e2,by lia,e4⟩
def Zc6 {d d':D}{k:Yo}(h:Zfw d=some k)(h':Zfw d'=some k):d=d':=by
 cases d<;>cases h<;>cases d'<;>cases h'<;>rfl
theorem Mj:∀{ds ds':List D}{ks:List Yo},K9 ds=some ks->K9 ds'=some ks->ds=ds'
 |[],[],_,_,_=>rfl
 |[],d'::r',ks,h,h'=>by
  cases h
  unfold K9 at h'
  split at h'<;>cases h'
 |d::r,[],ks,h,h'=>by
  cases h'
  unfold K9 at h
  split at h<;>cases h
 |d::r,d'::r',ks,h,h'=>by
  unfold K9 at h h'
  split at h
  ·rename_i k1 k2 e1 e2
   cases h
   split at h'
   ·rename_i k3 k4 e3 e4
    cases h'
    rw[Zc6 e1 e3,Mj e2 e4]
   ·cases h'
  ·cases h
def Zc7 {κ:Type}[DecidableEq κ]{c:List (κ×D)}{k k':κ}{d:D}(hn:Y2 c k=none):Y2 (Zcg c k d) k'=if k'=k then some d else Y2 c k':=by
 have hany:(c.any fun kv=>decide (kv.1=k))=false:=by
  cases h:(c.any fun kv=>decide (kv.1=k)) with
  |false=>rfl
  |true=>
   obtain⟨kv,h1,h2⟩:=List.any_eq_true.mp h
   have hf:(c.find? fun kv=>decide (kv.1=k))=none:=Option.map_eq_none_iff.mp hn
   exact absurd h2 (List.find?_eq_none.mp hf kv h1)
 unfold Zcg
 rw[hany]
 show((c++[(k,d)]).find? fun kv=>decide (kv.1=k')).map (·.2)=_
 rw[List.find?_append]
 by_cases e:k'=k
 ·subst e
  rw[if_pos rfl,Option.map_eq_none_iff.mp hn]
  simp
 ·rw[if_neg e]
  have:([(k,d)].find? fun kv=>decide (kv.1=k'))=none:=by
   rw[List.find?_cons]
   simp[Ne.symm e]
  rw[this]
  simp[Y2]
def Sa (i:Nat)(sd:Zf):M D:=match sd[i]? with
 |some (some (.fl _ g _))=>.ok g
 |_=>.bad
section
variable {X:Cx}{E:XK}{p pos:Pos}{vn:Str}
def Ml (i:Nat){C:Addr} (oc:ObC X.K "Floor" C) (na:NoAttr X.K C "hall") (hN:X.N[i]?=some vn:=by rfl) (hv:Rz X.env.scope vn:=by trivial) (hd:(vn==("__debug__":Str))=false:=by decide)
  (hcd:(vn==("__classdict__":Str))=false:=by decide) (hb:attributeBase (.Name vn p) "hall" X.env (eval (.Name vn p) X.env)=eval (.Name vn p) X.env:=by rfl):Y0 X E (.Attribute (.Name vn p) "hall" pos) (Sa i):=by
 refine⟨_,U2 (Z9 hN hv hd hcd) hb,fun H0 B Hf sd σ H Q sr h=>?_⟩
 unfold Sa at h
 split at h
 ·rename_i a g q ei
  obtain⟨v,e1,C',dx,gs,d,k,ys,rfl,e2,e3,e4,e5,e6⟩:=sr.imS i _ ei rfl
  rw[oc.at_] at e2
  cases e2
  obtain⟨v,l,rv⟩:=e4.hall
  exact⟨.ref a,e1,a,C,dx,gs,v,rfl,sr.sub _ _ e3,oc.cls,na,l,Po.ret (R:=rV X.K) sr.sub h rv⟩
 ·exact h.elim
end
def Ug (F:List D->M S)(g:D)(ds:List D):M D:=Nj (F (g::ds))
def Zjz (K:PySem.W.Frag)(F:List D->M S):Sp:=fun vs H Q _=>∃Hf a g q k n ds ks d v,vs=[.ref a,v]/\Same Hf H/\FlK K Hf a g q k/\Hf k=none/\CaAt K (Ug F g) n Hf H k/\n<sizeLine/\Rep K Hf (.tup ds) v/\K9 ds=some ks/\ds.length=3/\Ug F g ds=.ok d /\
 ∀v' Hf' H',GrM k Hf H Hf' H'->CaAt K (Ug F g) (n+1) Hf' H' k->Rep K Hf' d v'->Q v' H'
def Zj0 {m:M S}{d:D}(h:Nj m=.ok d):(match m with | .ok s=>s.toD|_=>M.bad)=.ok d:=by
 cases m with
 |ok s=>cases s<;>first|exact h|cases h
 |ex x=>cases h
 |bad=>cases h
structure HSt (K:PySem.W.Frag) (Ff:List D->M S) (a:Addr) (g:D) (q:List (List Yo×D)) (k:Addr) (n:Nat) (H0:Hp) (B:Addr->Prop) (Hf:Hp) (sd:Zf) (σ:L2.St) (H:Hp):Prop where
 sr:SR K H0 B Hf sd σ H
 s0:sd[0]?=some (some (.fl a g q))
 fl:FlK K Hf a g q k
 hk:Hf k=none
 ca:CaAt K (Ug Ff g) n Hf H k
 hn:n<sizeLine
section
variable {K:PySem.W.Frag}{Ff:List D->M S}{a k:Addr}{g:D}{q:List (List Yo×D)}{n:Nat}{H0:Hp}{B:Addr->Prop}{Hf H Hf1 H1:Hp}{sd:Zf}{σ:L2.St}{Fc:List D->M D}
def CaAt.lv (h:CaAt K Fc n Hf H k):Lv H k:=by
 obtain⟨c,ys,e1,_⟩:=h
 exact⟨_,e1,fun _ q=>by cases q⟩
theorem HSt.gr (x:HSt K Ff a g q k n H0 B Hf sd σ H)(y:Gr Hf H Hf1 H1):HSt K Ff a g q k n H0 B Hf1 sd σ H1:=
 ⟨x.sr.gr y,x.s0,x.fl.mono y.fz,y.ban k x.ca.lv x.hk,x.ca.mono y.fz fun o z=>y.all _ _ z,x.hn⟩
def Kon (K:PySem.W.Frag)(Fc:List D->M D)(k:Addr)(n:Nat)(Hf H:Hp)(d:D)(Q:VK):Prop:=∀v' Hf' H',GrM k Hf H Hf' H'->CaAt K Fc (n+1) Hf' H' k->Rep K Hf' d v'->Q v' H'
def Kon.gr {d:D}{Q:VK}(h:Kon K Fc k n Hf H d Q)(y:Gr Hf H Hf1 H1):Kon K Fc k n Hf1 H1 d Q:=fun v' Hf' H' gm ca rv=>
 h v' Hf' H' ((GrM.of_gr y).trans gm fun⟨o,e1,e2⟩=>⟨o,y.all _ _ e1,e2⟩) ca rv
end
def Zk1 (X:Cx)(Ff:List D->M S)(st:List Stmt)(f:Zf->M D):Prop:=
 ∃t:TS,PSs X st t/\∀(a k:Addr) (g:D) (q:List (List Yo×D)) (n:Nat) (H0:Hp) (B:Addr->Prop) (Hf:Hp) (sd:Zf) (σ:L2.St) (H:Hp) (D':Ends) (d:D),HSt X.K Ff a g q k n H0 B Hf sd σ H->f sd=.ok d->Kon X.K (Ug Ff g) k n Hf H d D'.rt->t D' σ H
def Wu (Ff:List D->M S)(Fa:List S->M S)(i:Nat)(fk:Zf->M D)(sd:Zf):M D:=match (sd[0]?:Option (Option S)),(sd[i]?:Option (Option S)) with
 |some (some (S.fl _ g _)),some (some o)=>if W7 o then(fk sd).bind fun kd=>(match kd with
  |.tup ds=>if ds.length=3/\(K9 ds).isSome=true then(Ug Ff g ds).bind fun pr=>Nj (Fa [o,.im pr]) else .bad
  |_=>.bad) else .bad
 |_,_=>.bad
def Zhv (c:Zf->M Bool)(f g:Zf->M D)(sd:Zf):M D:=(c sd).bind fun b=>if b then f sd else g sd
def bind_ok {α β:Type}{m:M α}{f:α->M β}{b:β}(h:m.bind f=.ok b):∃a,m=.ok a/\f a=.ok b:=by
 cases m with
 |ok a=>exact⟨a,rfl,h⟩
 |ex x=>cases h
 |bad=>cases h
section
variable {X:Cx}{Ff:List D->M S}{pos p p1 p2 apos cpos:Pos}{e key:Expr}{x vn fl fn:Str}
def Hq {f:Zf->M D}(h:Y0 X E0 e f):Zk1 X Ff [.Return (some e) pos] f:=by
 obtain⟨t,pt,qt⟩:=h
 refine⟨_,X1 (W3 pt),fun a k g q n H0 B Hf sd σ H D' d x ed kk=>?_⟩
 refine qt H0 B Hf sd σ H _ x.sr ?_
 rw[ed]
 intro v Hf1 H1 g1 rv
 exact kk v Hf1 H1 (.of_gr g1) ((x.gr g1).ca.le (by lia)) rv
def E2 {c:Expr}{xs rest:List Stmt}{kc:Zf->M Bool}{f g:Zf->M D}(hc:Lz X E0 c kc)(h:Zk1 X Ff xs f)(h2:Zk1 X Ff rest g):Zk1 X Ff (.If c xs [] pos::rest) (Zhv kc f g):=by
 obtain⟨tc,pc,qc⟩:=hc
 obtain⟨t1,p1,q1⟩:=h
 obtain⟨t2,p2,q2⟩:=h2
 refine⟨_,Qj (Fq pc p1 R0) p2,fun a k g' q n H0 B Hf sd σ H D' d x ed kk=>?_⟩
 obtain⟨b,eb,ed⟩:=bind_ok ed
 refine qc H0 B Hf sd σ H _ x.sr ?_
 rw[eb]
 intro v Hf1 H1 gr rv
 have e:b=v:=rv
 subst e
 cases b with
 |true=>
  rw[if_pos rfl] at ed ⊢
  exact q1 a k g' q n H0 B Hf1 sd σ H1 _ d (x.gr gr) ed (kk.gr gr)
 |false=>
  rw[if_neg Bool.false_ne_true] at ed ⊢
  exact q2 a k g' q n H0 B Hf1 sd σ H1 D' d (x.gr gr) ed (kk.gr gr)
def Cv (i:Nat){Fa:List S->M S}{fk:Zf->M D}{CF fA fB:Addr}{fdA fdB:FuncData}{psA psB:List Str}{kA kB:Nat}{pl:Sem Bool} (oc:ObC X.K "Floor" CF) (hm:Meth X.K CF "faces_at" fB) (GB:FnOk X.prog X.w X.K X.mg X.base Yd kB fB fdB psB (Zjz X.K Ff)) (hrB:Room kB X.A) (bB:Binds X.K fdB psB [])
  (GA:FnOk X.prog X.w X.K X.mg X.base Yd kA fA fdA psA (Rh X.K Fa)) (hrA:Room kA X.A) (mA:X.mg fn=some (.ref fA)) (keA:PySem.W.keepIn X.K (.ref fA)=true) (bA:Binds X.K fdA psA []) (hk:Y0 X E0 key fk)
  (n0:X.N[0]?=some fl:=by rfl) (v0:Rz X.env.scope fl:=by trivial) (d0:(fl==("__debug__":Str))=false:=by decide) (c0:(fl==("__classdict__":Str))=false:=by decide)
  (ni:X.N[i]?=some vn:=by rfl) (vi:Rz X.env.scope vn:=by trivial) (di:(vn==("__debug__":Str))=false:=by decide) (ci:(vn==("__classdict__":Str))=false:=by decide)
  (hgA:Gl X fn:=by rfl) (hdA:(fn==("__debug__":Str))=false:=by decide)
  (s1:starEach [.Name vn p,.Call (.Attribute (.Name fl p1) "faces_at" apos) [key] [] cpos] X.env=(false,eval (.Name vn p) X.env)::starEach [.Call (.Attribute (.Name fl p1) "faces_at" apos) [key] [] cpos] X.env:=by rfl)
  (s2:starEach [.Call (.Attribute (.Name fl p1) "faces_at" apos) [key] [] cpos] X.env=(false,eval (.Call (.Attribute (.Name fl p1) "faces_at" apos) [key] [] cpos) X.env)::starEach [] X.env:=by rfl)
  (s3:starEach [key] X.env=(false,eval key X.env)::starEach [] X.env:=by rfl) (hpl:(backTo cpos (starEach [] X.env)).any (·.1)=false:=by rfl) (hplA:(backTo pos (starEach [.Call (.Attribute (.Name fl p1) "faces_at" apos) [key] [] cpos] X.env)).any (·.1)=false:=by rfl)
  (ht:eval (.Call (.Attribute (.Name fl p1) "faces_at" apos) [key] [] cpos) X.env=(do
   let ov <-eval (.Name fl p1) X.env
   standAt apos.atName
   let (f,first) <-holding [ov] (getMethod ov "faces_at" pl)
   callWith cpos f first (backTo cpos (starEach [key] X.env)) (backToKw cpos (keywordEach [] X.env))):=by rfl) {rpos:Pos}:
  Zk1 X Ff [.Return (some (.Call (.Name fn p2) [.Name vn p,.Call (.Attribute (.Name fl p1) "faces_at" apos) [key] [] cpos] [] pos)) rpos] (Wu Ff Fa i fk):=by
 obtain⟨tk,pk,qk⟩:=hk
 refine⟨_,X1 (W3 (Kd (dvs:=[]) (E:=E0) GA hrA hgA mA keA bA .nil Jh (Qh (Z9 ni vi di ci) (Qh (M8 (dvs:=[]) (E:=E0) (pl:=pl) (Z9 n0 v0 d0 c0) oc.cls hm GB hrB bB .nil Jh (Qh pk Xa s3) s3 hpl ht) Xa s2) s1) hdA s1 hplA)),fun a k g q n H0 B Hf sd σ H D' d x ed kk=>?_⟩
 unfold Wu at ed
 rw[x.s0] at ed
 split at ed
 ·rename_i a' g' q' o h0 hi
  cases h0
  split at ed
  ·rename_i ho
   obtain⟨kd,ek,ed⟩:=bind_ok ed
   split at ed
   ·rename_i ds
    split at ed
    ·rename_i hd
     obtain⟨pr,e1,e2⟩:=bind_ok ed
     obtain⟨ks,eks⟩:=Option.isSome_iff_exists.mp hd.2
     obtain⟨vi',si,ri⟩:=x.sr.imS i o hi (Kk ho)
     obtain⟨v0',s0',r0⟩:=x.sr.imS 0 _ x.s0 rfl
     obtain⟨C',dx,gs,dd,k',ys,rfl,c1,c2,c3,c4,c5⟩:=id r0
     rw[oc.at_] at c1
     cases c1
     refine⟨vi',si,.ref a,s0',a,dx,gs,rfl,x.sr.sub _ _ c2,c3.m2,?_⟩
     refine qk H0 B Hf sd σ H _ x.sr ?_
     rw[ek]
     intro v Hf1 H1 g1 rv
     have y:=x.gr g1
     refine⟨Hf1,a,g,q,k,n,ds,ks,pr,v,rfl,g1.sub,y.fl,y.hk,y.ca,y.hn,rv,eks,hd.1,e1,fun v' Hf' H' gm ca' rv'=>?_⟩
     have ro:RepS X.K Hf' o vi':=(ri.mono g1.fz).mono gm.fz
     show Rh X.K Fa ([vi',v']++[]) H' D'.rt E0
     rw[List.append_nil]
     refine Bl (E:=E0) (ss:=[o,.im pr]) (vs:=[vi',v']) gm.sub (.cons ⟨Kk ho,ro⟩ (.cons ⟨rfl,rv'⟩ .nil)) ?_
     rw[e2]
     intro v2 Hf2 H2 g2 rv2
     have kg:=kk.gr g1
     refine kg v2 Hf2 H2 (gm.trans (.of_gr g2) fun _=>ca'.lv) (ca'.mono g2.fz fun o z=>g2.all _ _ z) rv2
    ·cases ed
   ·cases ed
  ·cases ed
 ·cases ed
end
def Zgf (K:PySem.W.Frag)(Ff:List D->M S)(F:List S->M D):Sp:=fun vs H Q _=>∃Hf ss a g q k n d,ss[0]?=some (.fl a g q)/\Same Hf H/\Zk0 K Hf ss vs/\FlK K Hf a g q k/\Hf k=none/\CaAt K (Ug Ff g) n Hf H k/\n<sizeLine/\F ss=.ok d/\Kon K (Ug Ff g) k n Hf H d Q
def Zmg (n:Nat)(f:Zf->M D)(ss:List S):M D:=if ss.length=n then f (ss.map some) else .bad
def Zof {P:Program}{w:World}{K:PySem.W.Frag}{mg:Str->Option Value}{base:Heap}{x qual:Str}{st:Stmt}{f:Addr}{fd:FuncData}{N:List Str}{k n:Nat}{Ff:List D->M S}{fb:Zf->M D}(F:Fun K x qual st f fd)(sc:FnScope N N (Zi st))(hn:N.length=n)(hbody:∀(cdv:Value) (A:Around) (outer:List Env) (s:Shared) (H:Hp) (E:XK),Room k (A.deeper (envOfC qual (Zi st) s.heap.objs.size f cdv)) ->
   Zk1 (X5 Yd P w K mg base N qual (Zi st) f cdv A outer s H E).nox Ff (Y5 st) fb):FnOk P w K mg base Yd (k+1) f fd N (Zgf K Ff (Zmg n fb)):=by
 refine F.ok sc (fun vs H Q E h=>?_) (fun cdv A outer s H vs Q E hr h=>?_)
 ·obtain⟨Hf,ss,a,g,q,k,n',d,h0,e,r,fl,hk,ca,hn',hF,_⟩:=h
  unfold Zmg at hF
  split at hF
  ·rename_i hl
   rw[<-Paired.length r,hl,hn]
  ·cases hF
 ·obtain⟨Hf,ss,a,g,q,k,n',d,h0,e,r,fl,hk,ca,hn',hF,kk⟩:=h
  obtain⟨t,p,qt⟩:=hbody cdv A outer s H E hr
  unfold Zmg at hF
  split at hF
  ·rename_i hl
   have sr:=Wt (N:=N) (m:=0) e r (by rw[hn,hl];rfl)
   rw[List.replicate_zero,List.append_nil] at sr
   refine⟨t,p,qt a k g q n' H _ Hf _ (L2.Xu N vs) H _ d ⟨sr,?_,fl,hk,ca,hn'⟩ hF kk⟩
   rw[List.getElem?_map,h0]
   rfl
  ·cases hF
section
variable {K:PySem.W.Frag}{H0 H0' Hf Hf' H H':Hp}{B B':Addr->Prop}{sd:Zf}{σ:L2.St}{x k:Addr}
def Zk2 (sd:Zf)(σ:L2.St)(x:Addr):Prop:=∀(i:Nat) (t:S),sd[i]?=some (some t)->t.own=true->σ[i]?≠some (some (.ref x))
def SR.less (r:SR K H0 B Hf sd σ H)(s:Same H0' H0)(hb:∀b,B' b->B b/\Lv H0' b):SR K H0' B' Hf sd σ H:=
 ⟨r.sub,s.trans r.all,fun b h=>r.ban b (hb b h).1,fun b h=>(hb b h).2,r.len,r.imS,fun i t e o=>by
  obtain⟨p,e1,e2,e3,e4⟩:=r.ow i t e o
  refine⟨p,e1,?_,e3,e4⟩
  cases q:H0' p with
  |none=>rfl
  |some u=>exact absurd e2 (by rw[s _ _ q];exact fun z=>nomatch z),r.sep⟩
def SR.keep (r:SR K H0 B Hf sd σ H){o:HO}(hk:H k=some o)(hl:Lv H k)(hf:Hf k=none)(off:Zk2 sd σ k):SR K (upd H0 k o) (fun b=>B b\/b=k) Hf sd σ H:=by
 refine⟨r.sub,fun b u q=>?_,fun b h=>?_,fun b h=>?_,r.len,r.imS,fun i t e ow=>?_,r.sep⟩
 ·by_cases e:b=k
  ·subst e;rw[Zo] at q;rw[hk];exact q
  ·rw[Zm e] at q;exact r.all b u q
 ·rcases h with h|rfl
  ·exact r.ban b h
  ·exact hf
 ·by_cases e:b=k
  ·subst e
   obtain⟨u,e1,e2⟩:=hl
   rw[hk] at e1
   cases e1
   exact⟨o,Zo,e2⟩
  ·rcases h with h|h
   ·obtain⟨u,e1,e2⟩:=r.bt b h
    exact⟨u,(Zm e).trans e1,e2⟩
   ·exact absurd h e
 ·obtain⟨p,e1,e2,e3,e4⟩:=r.ow i t e ow
  exact⟨p,e1,(Zm fun z=>off i t e ow (by rw[e1,z])).trans e2,e3,e4⟩
def SR.back {o:HO}(r:SR K (upd H0 k o) (fun b=>B b\/b=k) Hf sd σ H)(h0:H0 k=none)(bt:∀b,B b->Lv H0 b):H k=some o/\Hf k=none/\SR K H0 B Hf sd σ H:=
 ⟨r.all _ _ Zo,r.ban k (.inr rfl),r.less (fun b u q=>by rw[Zm (Zw q h0)];exact q) fun b h=>⟨.inl h,bt b h⟩⟩
def SR.grM (r:SR K H0 B Hf sd σ H)(g:GrM x Hf H Hf' H')(h0:H0 x=none)(off:Zk2 sd σ x):SR K H0 B Hf' sd σ H':=
 ⟨g.sub,fun b u q=>g.all b u (Zw q h0) (r.all b u q),fun b hb=>g.ban b (r.all.lv (r.bt b hb)) (r.ban b hb),r.bt,r.len,fun i t e z=>by
  obtain⟨v,z1,z2⟩:=r.imS i t e z
  exact⟨v,z1,z2.mono g.fz⟩,fun i t e o=>by
  obtain⟨p,e1,e2,e3,e4⟩:=r.ow i t e o
  exact⟨p,e1,e2,g.ban p (Zhp e4) e3,Wq e4 g.fz fun u h=>g.all _ _ (fun z=>off i t e o (by rw[e1,z])) h⟩,r.sep⟩
def SR.set_none (r:SR K H0 B Hf sd σ H)(i:Nat)(v:V)(hi:sd[i]?=some none):SR K H0 B Hf sd (σ.set i (some v)) H:=by
 have ne:∀{j:Nat}{t:S},sd[j]?=some (some t)->i≠j:=fun {j t} e z=>by subst z;rw[hi] at e;cases e
 refine⟨r.sub,r.all,r.ban,r.bt,by rw[List.length_set];exact r.len,fun j t e z=>?_,fun j t e o=>?_,fun j l t u p h e1 o1 e2 o2 e3 e4=>?_⟩
 ·rw[List.getElem?_set_ne (ne e)];exact r.imS j t e z
 ·rw[List.getElem?_set_ne (ne e)];exact r.ow j t e o
 ·rw[List.getElem?_set_ne (ne e1)] at e3
  rw[List.getElem?_set_ne (ne e2)] at e4
  exact r.sep j l t u p h e1 o1 e2 o2 e3 e4
def SR.offI (r:SR K H0 B Hf sd σ H){C dx:Addr}{gs:List (Str×V)}(hx:H x=some (.ins C dx gs)):Zk2 sd σ x:=by
 intro i t e ow z
 obtain⟨p,e1,_,_,e4⟩:=r.ow i t e ow
 rw[z] at e1
 cases e1
 exact Ct e4 hx rfl
def SR.offD (r:SR K H0 B Hf sd σ H){ys:List (List Yo×V)}(hx:H x=some (.dT ys))(ho:∀(i:Nat) (t:S),sd[i]?=some (some t)->t.own=true->∃ds,t=.ow ds):Zk2 sd σ x:=by
 intro i t e ow z
 obtain⟨p,e1,_,_,e4⟩:=r.ow i t e ow
 rw[z] at e1
 cases e1
 obtain⟨ds,rfl⟩:=ho i t e ow
 obtain⟨xs,h,_⟩:=e4
 rw[hx] at h
 cases h
end
section
variable {K:PySem.W.Frag}{E:XK}{H0 Hf H:Hp}{B:Addr->Prop}{sd:Zf}{σ:L2.St}{D':Ends}
def Vu {r:M O}{sd':Zf}(h:r=.ok (.nx sd'))(k:∀σ' Hf' H',Same Hf Hf'->SR K H0 B Hf' sd' σ' H'->D'.nx σ' H'):PoS K E H0 B Hf r D':=by rw[h];exact k
def Zc8 {r:M O}{d:D}(h:r=.ok (.rt (.im d)))(k:∀v Hf' H',Same Hf Hf'->Fin' H0 B Hf' H'->Rep K Hf' d v->D'.rt v H'):PoS K E H0 B Hf r D':=by rw[h];exact k
def Sb {f:Zf->M D}{d:D}{i:Nat}(h:f sd=.ok d):Z8 i f sd=.ok (.nx (sd.set i (some (.im d)))):=by
 unfold Z8
 rw[h]
 rfl
def Zc9 {k:Addr}{o:HO}{Hf' H':Hp}(s:Same Hf Hf')(fin:Fin' (upd (Gj H k) k o) (fun b=>(Lv (Gj H k) b/\Hf b=none)\/b=k) Hf' H'):GrM k Hf H Hf' H':=
 ⟨s,fin.sub,fun b u hb hu=>fin.all b u (by rw[Zm hb,Jm hb];exact hu),fun b hb hn=>by
  by_cases e:b=k
  ·subst e;exact fin.ban b (.inr rfl)
  ·obtain⟨o',h1,h2⟩:=hb
   exact fin.ban b (.inl ⟨⟨o',(Jm e).trans h1,h2⟩,hn⟩)⟩
def none_of {H H':Hp}(s:Same H H'){x:Addr}(h:H' x=none):H x=none:=by
 cases q:H x with
 |none=>rfl
 |some u=>rw[s _ _ q] at h;cases h
def Zda {C:Addr}{t:TA}{f:Zf->M (List D)}{F:Qw->List D->Option Qw}{l:List D}{r:Qw}{i:Nat}{c:Str}{Dn:L2.St->Hp->Prop}(qt:∀(H0:Hp) (B:Addr->Prop) (Hf:Hp) (sd:Zf) (σ:L2.St) (H:Hp) (Q:List V->Hp->Prop),SR K H0 B Hf sd σ H->Po K E0 (rA K) Hf H (f sd) Q->t σ H Q)(sr:SR K H0 B Hf sd σ H)(ef:f sd=.ok l)(hi:sd[i]?=some none)(eF:F [] l=some r)(hC:PySem.W.nsIn K mainGlobals c=some (some (.ref C)))(k:∀x σ' Hf' H',Same Hf Hf'->H x=none->SR K H0 B Hf' (sd.set i (some (.ob x c r))) σ' H'->Dn σ' H'):Zhm C (Rv K C F) [] E0 t σ H fun v H1=>Dn (σ.set i (some v)) H1:=by
 refine qt H0 B Hf sd σ H _ sr ?_
 rw[ef]
 intro vs Hf1 H1 g1 rs x dx hx hdx hne
 have hf1:Hf1 x=none:=none_of g1.sub hx
 have sm:Same H1 (upd (upd H1 dx (.own x)) x (.ins C dx [])):=(Qa hdx _).trans (Qa ((Zm hne.symm).trans hx) _)
 have g2:Gr Hf1 H1 Hf1 (upd (upd H1 dx (.own x)) x (.ins C dx [])):=⟨Same.refl _,g1.sub.trans sm,sm,fun _ _ h=>h⟩
 have h0:H0 x=none:=none_of (sr.all.trans g1.all) hx
 refine⟨Hf1,[],l,x,vs++[],r,rfl,g2.sub,hf1,⟨dx,[],Zo,.nil⟩,by rw[List.append_nil];exact rs,eF,fun Hf3 H3 gm ta=>⟨rfl,?_⟩⟩
 have hf3:Hf3 x=none:=gm.ban x (Ta Zo) hf1
 have sr2:=(sr.gr g1).gr g2
 have sr3:=sr2.grM gm h0 (sr2.offI Zo)
 obtain⟨dx',gs,e1,e2⟩:=ta
 have sr4:=sr3.set_none i (.ref x) hi
 have hl:i<σ.length:=by
  rw[<-sr.len]
  exact(List.getElem?_eq_some_iff.mp hi).1
 exact k x _ _ _ (g1.fz.trans (gm.fz.trans (Qa hf3 _))) (none_of g1.all hx) (sr4.fzO hi (List.getElem?_set_self hl) hC e1 e2 h0 hf3)
def Zhw {C x k:Addr}{F:Qw->List D->Option Qw}{Fc:List D->M D}{m i i1 i2:Nat}{r r':Qw}{now th:D}{c:Str}{Dn:L2.St->Hp->Prop}(sr:SR K H0 B Hf sd σ H)(hs:sd[i]?=some (some (.ob x c r)))(hu:∀(j:Nat) (t:S),j≠i->sd[j]?=some (some t)->t.adr≠some x/\∀z,t≠.xc z)(hC:PySem.W.nsIn K mainGlobals c=some (some (.ref C)))(h0:H0 x=none)(eF:F r [now,th]=some r')(n1:i≠i1)(n2:i≠i2)(s1:sd[i1]?=some (some (.im now)))(s2:sd[i2]?=some (some (.im th)))(hk:Hf k=none)(ca:CaAt K Fc m Hf H k)(kon:∀Hf' H',(∀Hs,Same Hs Hf->Hs x=none->Same Hs Hf')->SR K H0 B Hf' (sd.set i (some (.ob x c r'))) σ H'->Hf' k=none->CaAt K Fc m Hf' H' k->Dn σ H'):
  Zhi (Zhl (Rv K C F) [] E0 (Fu (Za9 i) (Fu (Za9 i1) (Fu (Za9 i2) Zix)))) {nx:=Dn,rt:=fun _ _=>False} σ H:=by
 obtain⟨z1,C',dx,gs,zc,z2,z3,sr1⟩:=sr.thO hs hu
 rw[hC] at zc
 cases zc
 obtain⟨v1,a1,a2⟩:=sr1.im i1 now (by rw[List.getElem?_set_ne n1];exact s1)
 obtain⟨v2,b1,b2⟩:=sr1.im i2 th (by rw[List.getElem?_set_ne n2];exact s2)
 refine⟨_,z1,_,a1,_,b1,Gj Hf x,r,[now,th],x,[v1,v2],r',rfl,sr1.sub,Vb Hf x,⟨dx,gs,z2,z3⟩,Reps.cons a2 (Reps.cons b2 Reps.nil),eF,fun Hf3 H3 gm ta=>?_⟩
 obtain⟨dx',gs',e1,e2⟩:=ta
 have hl:i<sd.length:=(List.getElem?_eq_some_iff.mp hs).1
 have hi:(sd.set i none)[i]?=some none:=List.getElem?_set_self hl
 have sr2:=sr1.grM gm h0 (sr1.offI z2)
 have hf3:Hf3 x=none:=gm.ban x (Ta z2) (Vb Hf x)
 have sr3:=sr2.fzO hi z1 hC e1 e2 h0 hf3
 rw[List.set_set] at sr3
 obtain⟨cc,ys,c1,c2,c3,c4⟩:=ca
 have kx:k≠x:=fun z=>by rw[z,z2] at c1;cases c1
 have hkr:Gj Hf x k=none:=(Jm kx).trans hk
 have hfx:Hf x=some (.ins C dx gs):=by
  obtain⟨v,y1,C'',dx'',gs'',rfl,y2,y3,y4⟩:=sr.imS i _ hs rfl
  rw[sr.sub _ _ y3] at z2
  cases z2
  exact y3
 refine kon _ H3 (fun Hs s n=>?_) sr3 ?_ ?_
 ·have:Same Hs (Gj Hf x):=fun b u q=>by
   rw[Jm (Zw q n)]
   exact s b u q
  exact this.trans (gm.fz.trans (Qa hf3 _))
 ·rw[Zm kx]
  exact gm.ban k ⟨_,c1,fun _ q=>by cases q⟩ hkr
 ·exact⟨cc,ys,gm.all _ _ kx c1,((c2.rm hfx Jn).mono gm.fz).mono (Qa hf3 _),c3,c4⟩
end
section
variable {prog:Program}{w:World}{K:Type} [DecidableEq K] {knd:HeapKind prog w K}{A:Around}{E:Value->Shared->Prop}{s:Shared}
def Rw {d a:Addr}{xs:List (K×Addr×Value)}{k:K}{dflt:Value}{Q:Value->Shared->Prop}(hu:knd.room A)(hkey:knd.is s.heap k a)(hm:s.heap.DictOfH knd d xs)(h1:∀v,(atKey xs k).map (·.2)=some v->Q v {s with toks:=s.toks+knd.draws k})(h2:(atKey xs k).map (·.2)=none->∀h',h'.DictOfH knd d (storedH xs k a dflt)->Heap.SameBut d s.heap h'->Q dflt {s with heap:=h',toks:=s.toks+knd.draws k})(hsz:xs.length<=sizeLine):wpAny (model prog w) A (dictSetDefault d (.ref a) dflt) Q E s:=by
 obtain⟨o,es,ep,ho,hc,hd,he,his,hn⟩:=hm
 unfold dictSetDefault
 try with_reducible refine wpAny_holding ?_
 refine wpAny_bind (knd.pyHash hu hkey (wpAny_bind (wpAny_dictFind_heap (s:={s with toks:=s.toks+knd.draws k}) hu hkey ho hd he his hn ?_ ?_)))
 ·intro hno
  have hnot:k ∉ xs.map (·.1):=not_mem_keys_of_get hno
  refine wpAny_bind (wpAny_rule (wpAny_bind (wpAny_updateDictKeys (hz:=by have e:=size_of_entries he;omega) (s:={s with toks:=s.toks+knd.draws k}) ho hd (wpAny_pure (h2 (by rw[atKey_none_of_get hno];rfl) _ ⟨_,_,ep+1,Heap.get?_update_self _ ho (Obj.isFreed_of_dict (Obj.data_mapDictKeys hd _)),
   hc.mapDictKeys _,Obj.data_mapDictKeys hd _,?_,?_,?_⟩ (Heap.SameBut.update ..))))))
  ·rw[storedH_new (atKey_none_of_get hno)]
   simp[he,entryOfKey]
  ·rw[storedH_new (atKey_none_of_get hno)]
   intro x hx
   rcases List.mem_append.mp hx with hx|hx
   ·exact knd.keeps (his x hx) ho hd (Heap.SameBut.update ..)
   ·simp only[List.mem_singleton] at hx
    subst hx
    exact knd.keeps hkey ho hd (Heap.SameBut.update ..)
  ·rw[storedH_new (atKey_none_of_get hno)]
   rw[List.map_append,List.nodup_append]
   refine⟨hn,by simp,?_⟩
   intro x hx y hy
   simp only[List.map_cons,List.map_nil,List.mem_singleton] at hy
   subst hy
   exact fun e=>hnot (e▸hx)
 ·intro j p hj
  refine wpAny_bind (wpAny_dictEntries (s:={s with toks:=s.toks+knd.draws k}) ho hd ?_)
  rw[PySem.entry_at he j,hj]
  exact wpAny_bind (wpAny_rule (wpAny_pure (h1 _ (by rw[atKey_of_get hn hj];rfl))))
def Nm {d a:Addr}{k:K}(hd:(d==sysModules)=false)(dflt:Value):
  MeetsIn prog w (Builtin.«dict.setdefault» ⟨[.ref d,.ref a,dflt],[]⟩) (fun A R s=>knd.room A.in1/\∃xs,knd.is s.heap k a/\s.heap.DictOfH knd d xs/\xs.length<=sizeLine /\
   (∀v,(atKey xs k).map (·.2)=some v->R (.ok (.ret v)) {s with toks:=s.toks+knd.draws k}) /\
   ((atKey xs k).map (·.2)=none->∀h',h'.DictOfH knd d (storedH xs k a dflt)->Heap.SameBut d s.heap h'->R (.ok (.ret dflt)) {s with heap:=h',toks:=s.toks+knd.draws k})):=
 .of_wp fun A R s ⟨hu,xs,hkey,hm,hz,h1,h2⟩=>by
  unfold Builtin.«dict.setdefault»
  refine wpAny_bind ?_
  unfold Builtin.Dict.keyAndDefault
  refine wpAny_bind (wpAny_notOrdered_dict hm.typeIs ?_)
  show wpAny _ _ (pure (d,Value.ref a,some dflt)) _ _ s
  refine wpAny_pure ?_
  show wpAny _ _ (if(d==sysModules)=true then _ else(dictSetDefault d (.ref a) dflt>>=_)) _ _ s
  rw[if_neg (by rw[hd];exact Bool.false_ne_true)]
  exact wpAny_bind (Rw hu hkey hm (fun v hv=>wpAny_pure ⟨v,rfl,h1 v hv⟩) (fun hn h' hm' hs'=>wpAny_pure ⟨dflt,rfl,h2 hn h' hm' hs'⟩) hz)
end
section
variable {X:Cx}{pins:List (Addr×Obj)}{σ:L2.St}{H:Hp}{s:Shared}{a b:Addr}{d:V}{r:Value}{A:Around}{E:Value->Shared->Prop}{kvs:List (List Yo×V)}{k:List Yo}
def Zdb {Q:Value->Shared->Prop}(hu:A.units+1<cLine)(I:Inv X pins σ H s)(e:H a=some (.dT kvs))(eb:H b=some (.tup (k.map kV)))(l:kvs.length<sizeLine)(rd:RelV d r)(h1:∀v w' s',Xp kvs k=some v->Inv X pins σ H s'->RelV v w'->Q w' s')(h2:Xp kvs k=none->∀s',Inv X pins σ (upd H a (.dT (Jz kvs k d))) s'->Q r s'):
  wpAny (model X.prog X.w) A (call (.builtin "dict.setdefault") [.ref a,.ref b,r]) Q E s:=by
 obtain⟨z,hd,xs,rel,dd⟩:=Zho I.hok e
 have hz:xs.length<=sizeLine:=by rw[<-Paired.length rel];exact z
 have rv:=rel.val k
 refine call_meetsIn PySem.F.slot_dict_setdefault dd.typeIs PySem.F.entry_dict_setdefault (PySem.F.args_dict_setdefault_3 _ _ _) (Nm (k:=k) hd r) ⟨tupleKind_room_in1 hu,xs,N6 I.hok eb,dd,hz,fun v hv=>?_,fun hn h' dd' hs=>?_⟩
 ·rw[hv] at rv
  cases q:Xp kvs k with
  |none=>rw[q] at rv;exact rv.elim
  |some v0=>rw[q] at rv;exact h1 v0 v _ q (I.tok _) rv
 ·rw[hn] at rv
  cases q:Xp kvs k with
  |some v0=>rw[q] at rv;exact rv.elim
  |none=>
   refine h2 q _ ?_
   have hl:(Jz kvs k d).length<=sizeLine:=by have:=Vg kvs k d;omega
   obtain⟨o,es,ep,hq,g2,g3,g4,_,g5⟩:=dd'
   refine Bc I (by rw[e];exact True.intro) hs ⟨o,hq⟩ ⟨hl,hd,_,(rel.put k eb rd).keeps fun c ys ec=>?_,o,es,ep,hq,g2,g3,g4,g5⟩
   rw[Zm (Zhh ec e (fun z=>nomatch z))]
   exact ec
end
def Zj1 (td ty tx:TE):TE:=fun σ H Q=>td σ H fun x H1=>∃a,x=.ref a/\Zn5 H1 a/\ty σ H1 fun y H2=>tx σ H2 fun z H3=>∃kvs k b,y=.ref b/\H3 a=some (.dT kvs)/\H3 b=some (.tup (k.map kV))/\kvs.length<sizeLine /\
 (∀v,Xp kvs k=some v->Q v H3)/\(Xp kvs k=none->Q z (upd H3 a (.dT (Jz kvs k z))))
def Zdc {X:Cx}{o e f:Expr}{apos cpos:Pos}{td ty tx:TE}(hu:X.A.units+1<cLine)(ho:PE X o td)(he:PE X e ty)(hf:PE X f tx) (m:M2 X o "setdefault" apos e f cpos):PE X (.Call (.Attribute o "setdefault" apos) [e,f] [] cpos) (Zj1 td ty tx):=by
 intro pins s σ H Q I h
 refine wpAny_Call_method m.base m.few m.line PySem.F.plainAttrs_dict PySem.F.slot_dict_setdefault PySem.F.type_dict_setdefault (Yj (ho pins s σ H _ I h) fun u s1 ⟨x,H1,I1,rx,a,ex,d,q1⟩=>?_)
 subst ex
 obtain rfl:u=Value.ref a:=rx
 obtain⟨t1,t2,_⟩:=Zbv I1 d
 refine⟨t1,t2,?_⟩
 rw[m.trees]
 refine Calls.callWith_builtin rfl (Calls.evalArgs_plain (Calls.spliced_cons (Yj (he pins s1 σ H1 _ I1 q1) fun iv s2 ⟨y,H2,I2,ry,q2⟩=>
  Calls.spliced_cons (Yj (hf pins s2 σ H2 _ I2 q2) fun fv s3 ⟨z,H3,I3,rz,kvs,k,b,ey,ea,eb,hl,h1,h2⟩=>Calls.spliced_nil ?_))))
 subst ey
 cases (show iv=Value.ref b from ry)
 exact Zdb hu I3 ea eb hl rz (fun v w' s4 ev I4 rw'=>⟨v,H3,I4,rw',h1 v ev⟩) fun ev s4 I4=>⟨z,_,I4,rz,h2 ev⟩
abbrev Nn:=List (List Yo×List D)
def Uy (ks:List Yo)(p:D):Nn->Nn
 |[]=>[(ks,[p])]
 |(k,l)::r=>if k=ks then(k,l++[p])::r else(k,l)::Uy ks p r
def OwnP (K:PySem.W.Frag)(H0 Hf H:Hp)(p:List Yo×List D)(q:List Yo×V):Prop:=p.1=q.1/\∃a xs,q.2=.ref a/\H a=some (.lst xs)/\Hf a=none/\H0 a=none/\Reps K Hf p.2 xs
def OwnL (K:PySem.W.Frag)(H0 Hf H:Hp)(acc:Nn)(ys:List (List Yo×V)):Prop:=Paired (OwnP K H0 Hf H) acc ys/\(ys.map (·.2)).Nodup
section
variable {K:PySem.W.Frag}{H0 Hf H Hf' H':Hp}{acc:Nn}{ys:List (List Yo×V)}{ks:List Yo}
theorem Tb {α β:Type}{F G:α->β->Prop}:∀{l₁:List α}{l₂:List β},Paired F l₁ l₂->(∀a b,F a b->b∈l₂->G a b)->Paired G l₁ l₂
 |_,_,.nil,_=>.nil
 |_,_,.cons h t,f=>.cons (f _ _ h (List.mem_cons_self ..)) (Tb t fun a b x y=>f a b x (List.mem_cons_of_mem _ y))
theorem Kw {α β:Type}{F:α->β->Prop}:∀{l₁:List α}{l₂:List β},Paired F l₁ l₂->∀{b},b∈l₂->∃a,F a b
 |_,_,.nil,b,h=>by cases h
 |_,_,.cons h t,b,hb=>by
  rcases List.mem_cons.mp hb with rfl|hb
  ·exact⟨_,h⟩
  ·exact Kw t hb
def OwnP.move {p:List Yo×List D}{q:List Yo×V}(h:OwnP K H0 Hf H p q)(e:Same Hf Hf')(he:∀a xs,q.2=.ref a->H a=some (.lst xs)->H' a=some (.lst xs))(hb:∀a,Lv H a->Hf a=none->Hf' a=none):OwnP K H0 Hf' H' p q:=by
 obtain⟨e1,a,xs,e2,e3,e4,e5,e6⟩:=h
 exact⟨e1,a,xs,e2,he a xs e2 e3,hb a (Lv.lst e3) e4,e5,e6.mono e⟩
def OwnL.gr (h:OwnL K H0 Hf H acc ys)(g:Gr Hf H Hf' H'):OwnL K H0 Hf' H' acc ys:=
 ⟨Paired.mapP h.1 fun _ _ q=>q.move g.fz (fun a xs _ z=>g.all _ _ z) g.ban,h.2⟩
def Zdd {v:V}(h:Xp ys ks=some v):v∈ys.map (·.2):=by
 obtain⟨kv,h1,h2⟩:=Option.map_eq_some_iff.mp h
 rw[<-h2]
 exact List.mem_map_of_mem (List.mem_of_find?_eq_some h1)
def Mn {p:List Yo×V}:Xp (p::ys) ks=if p.1=ks then some p.2 else Xp ys ks:=by
 unfold Xp
 rw[List.find?_cons]
 by_cases e:p.1=ks
 ·simp[e]
 ·simp[e]
def OwnL.there (h:OwnL K H0 Hf H acc ys){v:V}(hv:Xp ys ks=some v):∃a xs,v=.ref a/\H a=some (.lst xs)/\Hf a=none/\H0 a=none/\(∃p∈acc,xs.length=p.2.length)/\∀(p:D) (y:V),Rep K Hf p y->Paired (OwnP K H0 Hf (upd H a (.lst (xs++[y])))) (Uy ks p acc) ys:=by
 obtain⟨h,n⟩:=h
 induction h with
 |nil=>cases hv
 | @cons x q l l' hp ht ih=>
  rw[List.map_cons,List.nodup_cons] at n
  rw[Mn] at hv
  obtain⟨x1,x2⟩:=x
  obtain⟨e1,a,xs,e2,e3,e4,e5,e6⟩:=id hp
  have e1:x1=q.1:=e1
  by_cases e:q.1=ks
  ·rw[if_pos e] at hv
   cases hv
   refine⟨a,xs,e2,e3,e4,e5,⟨_,List.mem_cons_self ..,e6.length.symm⟩,fun p y ry=>?_⟩
   unfold Uy
   rw[if_pos (e1.trans e)]
   refine .cons ⟨e1,a,xs++[y],e2,Zo,e4,e5,e6.append (Reps.cons ry Reps.nil)⟩ ?_
   refine Tb ht fun z z' hz hm=>?_
   refine hz.move (Same.refl _) (fun b zs e7 e8=>?_) fun _ _ z=>z
   rw[Zm]
   ·exact e8
   ·rintro rfl
    exact n.1 (by rw[e2,<-e7];exact List.mem_map_of_mem hm)
  ·rw[if_neg e] at hv
   obtain⟨a',xs',f1,f2,f3,f4,⟨pp,g1,g2⟩,f5⟩:=ih hv n.2
   refine⟨a',xs',f1,f2,f3,f4,⟨pp,List.mem_cons_of_mem _ g1,g2⟩,fun p y ry=>?_⟩
   unfold Uy
   rw[if_neg (fun z=>e (e1.symm.trans z))]
   refine .cons (hp.move (Same.refl _) (fun b zs e7 e8=>?_) fun _ _ z=>z) (f5 p y ry)
   rw[Zm]
   ·exact e8
   ·rintro rfl
    exact n.1 (by rw[e7,<-f1];exact Zdd hv)
def OwnL.new (h:OwnL K H0 Hf H acc ys)(hv:Xp ys ks=none){p:D}{y:V}{a d:Addr}{u:List (List Yo×V)}{o:HO}(hd:H d=some (.dT u))(ha:H a=none)(h0:H0 a=none)(hf:Hf a=none)(ry:Rep K Hf p y):
  OwnL K H0 Hf (upd (upd H d o) a (.lst [y])) (Uy ks p acc) (Jz ys ks (.ref a)):=by
 have ep:Jz ys ks (V.ref a)=ys++[(ks,.ref a)]:=by
  unfold Jz
  rw[if_neg]
  intro hany
  obtain⟨kv,h1,h2⟩:=List.any_eq_true.mp hany
  exact absurd h2 (List.find?_eq_none.mp (Option.map_eq_none_iff.mp hv) kv h1)
 have ne:∀{x:List Yo×List D}{q:List Yo×V},OwnP K H0 Hf H x q->OwnP K H0 Hf (upd (upd H d o) a (.lst [y])) x q:=fun {x q} hp=>hp.move (Same.refl _) (fun b zs e7 e8=>by
  have n1:b≠a:=fun z=>by rw[z,ha] at e8;cases e8
  have n2:b≠d:=fun z=>by rw[z,hd] at e8;cases e8
  rw[Zm n1,Zm n2];exact e8) fun _ _ z=>z
 rw[ep]
 obtain⟨h,n⟩:=h
 refine⟨?_,?_⟩
 ·clear n ep
  induction h with
  |nil=>exact .cons ⟨rfl,a,[y],rfl,Zo,hf,h0,Reps.cons ry Reps.nil⟩ .nil
  | @cons x q l l' hp ht ih=>
   rw[Mn] at hv
   obtain⟨x1,x2⟩:=x
   have e1:x1=q.1:=hp.1
   by_cases e:q.1=ks
   ·rw[if_pos e] at hv;cases hv
   ·rw[if_neg e] at hv
    unfold Uy
    rw[if_neg (fun z=>e (e1.symm.trans z))]
    exact .cons (ne hp) (ih hv)
 ·rw[List.map_append,List.nodup_append]
  refine⟨n,by simp,fun v hv' w hw=>?_⟩
  simp only[List.map_cons,List.map_nil,List.mem_singleton] at hw
  subst hw
  rintro rfl
  obtain⟨q,hq,eq⟩:=List.mem_map.mp hv'
  obtain⟨x,hx⟩:=Kw h hq
  obtain⟨_,b,xs,e2,e3,_⟩:=hx
  rw[eq] at e2
  cases e2
  rw[ha] at e3
  cases e3
theorem Pr {p:D}{n:Nat}:∀{acc:Nn},(∀x∈acc,x.2.length<=n)->∀x∈Uy ks p acc,x.2.length<=n+1
 |[],_,x,hx=>by
  unfold Uy at hx
  rw[List.mem_singleton] at hx
  rw[hx]
  simp
 |(k,l)::r,h,x,hx=>by
  unfold Uy at hx
  split at hx
  ·rcases List.mem_cons.mp hx with rfl|hx
   ·have:=h _ (List.mem_cons_self ..)
    simp only[List.length_append,List.length_cons,List.length_nil] at this ⊢
    lia
   ·exact Nat.le_succ_of_le (h x (List.mem_cons_of_mem _ hx))
  ·rcases List.mem_cons.mp hx with rfl|hx
   ·exact Nat.le_succ_of_le (h _ (List.mem_cons_self ..))
   ·exact Pr (fun y hy=>h y (List.mem_cons_of_mem _ hy)) x hx
theorem Tc {p:D}:∀{acc:Nn},(Uy ks p acc).length<=acc.length+1
 |[]=>Nat.le_refl _
 |(k,l)::r=>by
  unfold Uy
  split
  ·simp
  ·have:=Tc (p:=p) (acc:=r)
   simp only[List.length_cons]
   lia
open Classical in
noncomputable def Zet (Hf H:Hp)(S:Addr->Prop):Hp:=fun b=>match Hf b with
 |some u=>some u
 |none=>if S b then H b else none
def Td {S:Addr->Prop}:Same Hf (Zet Hf H S):=fun b u q=>by unfold Zet;rw[q]
def Zgg {S:Addr->Prop}(e:Same Hf H):Same (Zet Hf H S) H:=fun b u q=>by
 unfold Zet at q
 split at q
 ·rename_i u' eu;cases q;exact e _ _ eu
 ·split at q
  ·exact q
  ·cases q
def E3 {S:Addr->Prop}(e:Same Hf H){b:Addr}(h:S b){o:HO}(ho:H b=some o):Zet Hf H S b=some o:=by
 unfold Zet
 split
 ·rename_i u' eu;rw[<-ho];exact(e _ _ eu).symm
 ·rw[if_pos h];exact ho
def Cw {S:Addr->Prop}{b:Addr}(h:¬S b)(hf:Hf b=none):Zet Hf H S b=none:=by
 unfold Zet
 rw[hf]
 exact if_neg h
variable {sd:Zf}{σ:L2.St}{B:Addr->Prop}
def SR.mut (r:SR K H0 B Hf sd σ H){b:Addr}{o:HO}(h0:H0 b=none)(hf:Hf b=none)(off:Zk2 sd σ b):SR K H0 B Hf sd σ (upd H b o):=
 ⟨fun c u q=>by rw[Zm (Zw q hf)];exact r.sub c u q,fun c u q=>by rw[Zm (Zw q h0)];exact r.all c u q,r.ban,r.bt,r.len,r.imS,fun i t e ow=>by
  obtain⟨p,e1,e2,e3,e4⟩:=r.ow i t e ow
  refine⟨p,e1,e2,e3,Wq e4 (Same.refl _) fun u h=>?_⟩
  rw[Zm]
  ·exact h
  ·rintro rfl
   exact off i t e ow e1,r.sep⟩
def Gr.new (e:Same Hf H){b:Addr}(h:H b=none)(o:HO):Gr Hf H Hf (upd H b o):=⟨Same.refl _,e.trans (Qa h o),Qa h o,fun _ _ z=>z⟩
end
def qD (q:Nn):List (List Yo×D):=q.map fun p=>(p.1,D.lst p.2)
def Zj2 (K:PySem.W.Frag)(CF:Addr)(Fb:List D->Option Nn):Sp:=fun vs H Q _=>∃Hf x dx hall ppl q vh vp,vs=[.ref x,vh,vp]/\Same Hf H/\Hf x=none/\H x=some (.ins CF dx [])/\Rep K Hf hall vh/\Rep K Hf (.lst ppl) vp/\ppl.length<=1000000/\Fb ppl=some q /\
 ∀Hf' H' k,Same Hf Hf'->Same Hf' H'->(∀b u,b≠x->H b=some u->H' b=some u)->(∀b,Lv H b->Hf b=none->b≠x->Hf' b=none)->FlK K Hf' x hall (qD q) k->Hf' k=none->H' k=some (.dT [])->H k=none->Q .non H'
section
variable {X:Cx}{E:XK}{p p2 pos:Pos}{es:List Expr}{k:Nat}
def E4 (fs:Zf->M (List D))(sd:Zf):M (List D):=(fs sd).bind fun ds=>match ds with
 |[.tup xs,.tup ys]=>.ok (Zfv xs ys)
 |_=>.bad
def Zad {l m:Expr}{fs:Zf->M (List D)} (hg:Gl X "zip") (hm:X.mg "zip"=none) (h:T3 X E [l,m] fs) (hs:starEach [l,m] X.env=[(false,eval l X.env),(false,eval m X.env)]:=by rfl) (hs2:starEach [m] X.env=[(false,eval m X.env)]:=by rfl):
  Zhr X E (.Tuple es k p2) (.Call (.Name "zip" p) [l,m] [] pos) (E4 fs):=by
 obtain⟨t,pt,q⟩:=h
 refine⟨_,Zfz true true hg hm pt hs hs2,fun H0 B Hf sd σ H R sr h=>?_⟩
 refine q H0 B Hf sd σ H _ sr (Po.bind h fun ds vs Hf1 H1 _ g1 rs h1=>?_)
 split at h1
 ·rename_i xs ys
  obtain⟨v,w',rfl,rv,rw'⟩:=L0 rs
  obtain⟨a,us,rfl,ha,hr⟩:=Qc rv
  obtain⟨b,ws,rfl,hb,hr'⟩:=Qc rw'
  exact⟨a,b,rfl,⟨us,Kj (t:=true) g1.sub ha⟩,⟨ws,Kj (t:=true) g1.sub hb⟩,Po.ret (R:=Rs X.K) g1.sub h1 (Zjo (t1:=true) (t2:=true) ha hr hb hr')⟩
 ·exact h1.elim
end
structure Dm (K:PySem.W.Frag) (mg:Str->Option Value) (x:Str) (st:Stmt):Prop where
 ex:∃f fd,Fun K x x st f fd/\mg x=some (.ref f)
structure Mm (K:PySem.W.Frag) (C:Addr) (m q:Str) (st:Stmt):Prop where
 ex:∃f fd,Meth K C m f/\Fun K m q st f fd
structure Cl (P:Program) (w:World) (K:PySem.W.Frag) (mg:Str->Option Value) (base:Heap) (n:Nat) (x:Str) (ps:List Str) (F:List D->M S):Prop where
 ex:∃f fd,FnOk P w K mg base Yd n f fd ps (Sr K F)/\Binds K fd ps []/\PySem.W.keepIn K (.ref f)=true/\mg x=some (.ref f)
section
variable {P:Program}{w:World}{K:PySem.W.Frag}{mg:Str->Option Value}{base:Heap}
def dm_mk {h:Heap}{x:Str}{st:Stmt}{f:Addr}{oc:Value}{od an:Option Addr}{sl:Array (Option Value)}{kV dc pm cd ct:Value}(X:K.In h)(G:h.Ns mainGlobals mg)(a:PySem.W.nsIn K mainGlobals x=some (some (.ref f)))(l:K.lookup f=some ⟨oc,od,.func (PySem.W.fnOf x x (Vh st) (Y5 st) (Zi st) .none kV dc pm an cd ct),sl⟩)(c:PySem.W.codeIn K cd x=true)(k:PySem.W.keepIn K (.ref f)=true):Dm K mg x st:=⟨_,_,Zby l c k,PySem.W.mg_of X G a⟩
def mm_mk {C:Addr}{m q:Str}{st:Stmt}{f:Addr}{oc:Value}{od an:Option Addr}{sl:Array (Option Value)}{kV dc pm cd ct:Value}(a:PySem.W.findIn K (.ref C) m=some (some (.ref f)))(n:PySem.W.isFn K (.ref f)=true)(l:K.lookup f=some ⟨oc,od,.func (PySem.W.fnOf m q (Vh st) (Y5 st) (Zi st) .none kV dc pm an cd ct),sl⟩)(c:PySem.W.codeIn K cd q=true)(k:PySem.W.keepIn K (.ref f)=true):Mm K C m q st:=⟨_,_,⟨a,n,k⟩,Zby l c k⟩
def Dm.cl {x:Str}{st:Stmt}{n:Nat}{ps:List Str}{F:List D->M S}(d:Dm K mg x st)(hb:∀(kV doc pm:Value) (an:Option Addr) (cdv ct:Value) (us:List Value),us.length=ps.length->bindArgs (PySem.W.fnOf x x (Vh st) (Y5 st) (Zi st) .none kV doc pm an cdv ct) ⟨us,[]⟩=pure (ps.zip us))(h:∀f fd,Fun K x x st f fd->FnOk P w K mg base Yd n f fd ps (Sr K F)):Cl P w K mg base n x ps F:=
 let ⟨f,fd,F,m⟩:=d.ex
 ⟨f,fd,h f fd F,F.binds hb,F.kp,m⟩
end
def Z4 {X:Cx}{E:XK}{pos:Pos}{k:Nat}{ps:List Str}{F:List D->M S}{x:Str}{p:Pos}{a:Expr}{es:List Expr}{fs:Zf->M (List D)}(c:Cl X.prog X.w X.K X.mg X.base k x ps F)(hr:Room k X.A)(ha:T3 X E (a::es) fs)(hg:Gl X x:=by rfl) (hdb:(x==("__debug__":Str))=false:=by decide) (he:starEach (a::es) X.env=(false,eval a X.env)::starEach es X.env:=by rfl) (hpl:(backTo pos (starEach es X.env)).any (·.1)=false:=by rfl):
  Y0 X E (.Call (.Name x p) (a::es) [] pos) (Zv F fs):=
 let ⟨_,_,G,b,k,m⟩:=c.ex
 Xb G hr m k b ha hg hdb he hpl
end DL
namespace DL
open PySem PySem.Spec PyProof.Rows L2 PySem.W
def Ri (a b c:Int):Nat:=if a<b then((b-a-1)/c+1).toNat else 0
def Ap (a c:Int)(n:Nat):List Int:=(List.range n).map fun(i:Nat)=>a+(i:Int)*c
def Hr {a b c:Int}(hc:0<c):Builtin.Range.rangeSize a b c=(Ri a b c:Int):=by
 unfold Builtin.Range.rangeSize Ri
 rw[if_pos hc]
 split
 ·rename_i h
  have:0<=(b-a-1)/c:=Int.ediv_nonneg (by lia) (by lia)
  lia
 ·rfl
def Zmh {a b c:Int}(hc:0<c):(Ri a b c:Int)<=max 0 (b-a):=by
 unfold Ri
 split
 ·have h0:0<=(b-a-1)/c:=Int.ediv_nonneg (by lia) (by lia)
  have h1:(b-a-1)/c<=b-a-1:=Int.ediv_le_self _ (by lia)
  lia
 ·lia
def Zgh {a b c:Int}(ha:-(2 ^ 60)<=a)(ha':a<2 ^ 60)(hb:-(2 ^ 60)<=b)(hb':b<2 ^ 60)(hc:0<c)(hc':c<2 ^ 60):Builtin.Range.small a b c=true:=by
 have h:=Hr (a:=a) (b:=b) hc
 have h2:=Zmh (a:=a) (b:=b) hc
 unfold Builtin.Range.small
 rw[h]
 simp only[Builtin.Range.rangeFitsLong,Bool.and_eq_true,Bool.or_eq_true,decide_eq_true_eq,beq_iff_eq,hc,if_true]
 refine⟨⟨⟨⟨?_,?_⟩,?_⟩,?_⟩,?_⟩<;>lia
def E5 {a c:Int}{n:Nat}{acc:Array Value}(h:ItemsOf (fun i v=>∃t,v=Value.int (a+i*c) t) acc n):Vals ((Ap a c n).map V.int) acc.toList:=by
 obtain⟨h1,h2⟩:=h
 have:∀(l:List Value) (k:Nat),(∀j v,l[j]?=some v->∃t,v=Value.int (a+((k+j:Nat):Int)*c) t)->Vals (((List.range' k l.length).map fun(i:Nat)=>a+(i:Int)*c).map V.int) l:=by
  intro l
  induction l with
  |nil=>intro k _;exact .nil
  |cons v l ih=>
   intro k hv
   rw[List.length_cons,List.range'_succ,List.map_cons,List.map_cons]
   refine .cons ?_ (ih (k+1) fun j w hj=>?_)
   ·obtain⟨t,e⟩:=hv 0 v rfl
    exact⟨t,by rw[e,Nat.add_zero]⟩
   ·obtain⟨t,e⟩:=hv (j+1) w (by simpa using hj)
    exact⟨t,by rw[e];congr 4;lia⟩
 have h3:=this acc.toList 0 fun j v hj=>by
  rw[Nat.zero_add]
  exact h2 j v (by rw[<-Array.getElem?_toList];exact hj)
 have e:acc.toList.length=n:=by rw[Array.length_toList];exact h1
 rw[e] at h3
 unfold Ap
 rw[List.range_eq_range']
 exact h3
section
variable {X:Cx}{E:XK}{pos pos' p p':Pos}{e1 e2 e3:Expr}
def Zj3 (a b c:Int):Prop:=-(2 ^ 60)<=a/\a<2 ^ 60/\-(2 ^ 60)<=b/\b<2 ^ 60/\0<c/\c<2 ^ 60/\Ri a b c<=1000000
def Zpc (xs:List V)(H:Hp)(Q:VK):Prop:=∃a b c:Int,xs=[.int a,.int b,.int c]/\Zj3 a b c/\∀l,H l=none->Q (.ref l) (upd H l (.lst ((Ap a c (Ri a b c)).map V.int)))
def Bo (a c:Int)(n:Nat):(Ap a c n).length=n:=by unfold Ap;rw[List.length_map,List.length_range]
def Zj4 {pins:List (Addr×Obj)}{s s1:Shared}{σ:L2.St}{H:Hp}{Q:VK}{a b c:Int}{t u v:Tok}{tk:Nat}(hc:X.calm=true)(I1:Inv X pins σ H s1)(ok:Zj3 a b c)(q:∀l,H l=none->Q (.ref l) (upd H l (.lst ((Ap a c (Ri a b c)).map V.int)))):
  wpAny (model X.prog X.w) X.A (call (.type "list") [.ref s1.heap.objs.size]) (EP X pins σ Q) X.xe {s1 with heap:=s1.heap.push {cls:=.type "range", data:=.fields #[.int a t,.int b u,.int c v]},toks:=tk}:=by
 obtain⟨o1,o2,o3,o4,o5,o6,o7⟩:=ok
 have I2:Inv X pins σ H {s1 with heap:=s1.heap.push {cls:=.type "range", data:=.fields #[.int a t,.int b u,.int c v]},toks:=tk}:=I1.kept fun b o e=>Heap.get?_push_of_some _ e
 refine call_list_range (n:=Ri a b c) (I1.ok.hd hc) (IsRange.new ..) (Zgh o1 o2 o3 o4 o5 o6) (Hr o5) (Nat.le_trans o7 (by decide)) fun h' tk' acc' c' kp eS hacc=>?_
 refine⟨.ref _,_,I2.laid (t':=tk') (o:=.lst ((Ap a c (Ri a b c)).map V.int)) kp (Nat.le_refl _) ⟨?_,acc'.toList,c',E5 hacc,?_⟩,rfl,q _ (I2.hok.fresh (Nat.le_refl _))⟩
 ·rw[List.length_map,Bo,sizeLine_eq]
  exact Nat.le_trans o7 (by decide)
 ·rw[Array.toArray_toList]
  exact eS
def Zj5 {t:TA}(hc:X.calm=true) (hg:Gl X "list") (hm:X.mg "list"=none) (hv:bootBuiltins "list"=some (.type "list")) (hg2:Gl X "range") (hm2:X.mg "range"=none) (ha:PA X [e1,e2,e3] t)
  (he:starEach [Expr.Call (.Name "range" p') [e1,e2,e3] [] pos'] X.env=(false,eval (Expr.Call (.Name "range" p') [e1,e2,e3] [] pos') X.env)::starEach [] X.env:=by rfl) (hpl:(backTo pos (starEach [] X.env)).any (·.1)=false:=by rfl)
  (he2:starEach [e1,e2,e3] X.env=(false,eval e1 X.env)::starEach [e2,e3] X.env:=by rfl) (hpl2:(backTo pos' (starEach [e2,e3] X.env)).any (·.1)=false:=by rfl):
  PE X (.Call (.Name "list" p) [.Call (.Name "range" p') [e1,e2,e3] [] pos'] [] pos) (Znz Zpc t):=by
 intro pins s σ H Q I h
 refine wpAny_Call_Name_kw (U1 I hg hm hv ?_ (by decide) (by decide))
 refine PyProof.Rows.callWith_type1 ?_ he hpl
 rw[he]
 show wpAny _ _ (spliced ((false,eval (Expr.Call (.Name "range" p') [e1,e2,e3] [] pos') X.env)::backTo pos (starEach [] X.env))) _ _ s
 refine Calls.spliced_cons ?_
 refine wpAny_Call_Name_kw (U1 I hg2 hm2 boot_range ?_ (by decide) (by decide))
 refine PyProof.Rows.callWith_type1 (Yj (ha pos' pins s σ H _ I h) fun us s1 ⟨vs,H1,I1,r1,q1⟩=>?_) he2 hpl2
 obtain⟨a,b,c,rfl,ok,q⟩:=q1
 rcases r1 with _|⟨⟨ta,rfl⟩,_|⟨⟨tb,rfl⟩,_|⟨⟨tc,rfl⟩,_|_⟩⟩⟩
 have hc0:c≠0:=by have:=ok.2.2.2.2.1;lia
 refine call_range_3 hc0 ?_ (.inl (PyProof.noPylong_of_log2 (Zb0 ?_)))
 ·refine Calls.spliced_nil ?_
  exact Zj4 (s:=s) hc I1 ok q
 ·have h1:=ok.2.2.2.2.1
  have h2:=ok.2.2.2.2.2.1
  have:(2:Nat) ^ 60<2 ^ 4000:=Nat.pow_lt_pow_right (by decide) (by decide)
  have e60:(2:Int) ^ 60=((2 ^ 60:Nat):Int):=by decide
  lia
def Zmi (a b c:Int):Bool:=decide (-(2 ^ 60)<=a/\a<2 ^ 60/\-(2 ^ 60)<=b/\b<2 ^ 60/\0<c/\c<2 ^ 60/\Ri a b c<=1000000)
def Zj6 {a b c:Int}(h:Zmi a b c=true):Zj3 a b c:=by
 unfold Zmi at h
 have:=of_decide_eq_true h
 exact this
def Zj7:List D->M D
 |[.int a,.int b,.int c]=>if Zmi a b c=true then .ok (.lst ((Ap a c (Ri a b c)).map D.int)) else .bad
 |_=>.bad
def Zj8 (fs:Zf->M (List D))(sd:Zf):M D:=(fs sd).bind Zj7
theorem reps_ints {K:Frag}{H:Hp}:∀l:List Int,Reps K H (l.map D.int) (l.map V.int)
 |[]=>Reps.nil
 |i::l=>Reps.cons (rep_int.mpr rfl) (reps_ints l)
def Zj9 {fs:Zf->M (List D)}(hc:X.calm=true) (z1:X.mg "list"=none) (z2:X.mg "range"=none) (h:T3 X E [e1,e2,e3] fs) (hg:Gl X "list":=by rfl) (hg2:Gl X "range":=by rfl)
  (he:starEach [Expr.Call (.Name "range" p') [e1,e2,e3] [] pos'] X.env=(false,eval (Expr.Call (.Name "range" p') [e1,e2,e3] [] pos') X.env)::starEach [] X.env:=by rfl) (hpl:(backTo pos (starEach [] X.env)).any (·.1)=false:=by rfl)
  (he2:starEach [e1,e2,e3] X.env=(false,eval e1 X.env)::starEach [e2,e3] X.env:=by rfl) (hpl2:(backTo pos' (starEach [e2,e3] X.env)).any (·.1)=false:=by rfl):
  Y0 X E (.Call (.Name "list" p) [.Call (.Name "range" p') [e1,e2,e3] [] pos'] [] pos) (Zj8 fs):=by
 obtain⟨t,pt,qt⟩:=h
 refine⟨_,Zj5 hc hg z1 (by rfl) hg2 z2 pt he hpl he2 hpl2,fun H0 B Hf sd σ H Q sr h=>?_⟩
 refine qt H0 B Hf sd σ H _ sr (Po.bind h fun ds vs Hf1 H1 _ g1 rs h1=>?_)
 have hlen:=rs.length
 unfold Zj7 at h1
 split at h1
 ·split at h1
  ·rename_i a b c _ hb
   obtain⟨x,_,rfl,r1,rs⟩:=reps_cons.mp rs
   obtain⟨y,_,rfl,r2,rs⟩:=reps_cons.mp rs
   obtain⟨z,_,rfl,r3,rs⟩:=reps_cons.mp rs
   cases reps_nil.mp rs
   cases rep_int.mp r1
   cases rep_int.mp r2
   cases rep_int.mp r3
   exact⟨a,b,c,rfl,Zj6 hb,fun l hl=>h1 _ _ _ (Gr.alloc g1.sub hl _) (Gr.lst g1.sub hl (reps_ints _))⟩
  ·exact h1.elim
 ·exact h1.elim
end
section
variable {X:Cx}{E:XK}{pos:Pos}
def W8 {α:Type}(k:Nat)(y:α)(xs:List α):List α:=xs.take k++y::xs.drop k
def Zog:V->List V->Hp->VK->Prop:=fun x vs H Q=>∃(l:Addr) (xs:List V) (k:Nat) (y:V),x=.ref l/\vs=[.int (k:Int),y]/\H l=some (.lst xs)/\k<=xs.length/\xs.length<=1000000/\Q .non (upd H l (.lst (W8 k y xs)))
theorem Vals.take:∀{xs:List V}{us:List Value} (k:Nat),Vals xs us->Vals (xs.take k) (us.take k)
 |_,_,0,_=>.nil
 |_,_,k+1,.nil=>.nil
 |_,_,k+1,.cons r t=>.cons r (Vals.take k t)
theorem Vals.drop:∀{xs:List V}{us:List Value} (k:Nat),Vals xs us->Vals (xs.drop k) (us.drop k)
 |_,_,0,h=>h
 |_,_,k+1,.nil=>.nil
 |_,_,k+1,.cons r t=>Vals.drop k t
def Zae:Zm8 X "list.insert" Zog:=by
 intro pins s σ H x vs v us Q I rx rv h
 obtain⟨l,xs,k,y,rfl,rfl,hH,hk,hl,q⟩:=h
 cases rx
 rcases rv with _|⟨⟨t,rfl⟩,_|⟨ru,_|_⟩⟩
 rename_i u
 obtain⟨z,its,n,r,hl',e⟩:=I.lstM hH
 have hlen:=r.length
 have hfit:¬((!Builtin.List.listFitsIndex (k:Int))=true):=by
  have:Builtin.List.listFitsIndex (k:Int)=true:=by
   unfold Builtin.List.listFitsIndex
   rw[Bool.and_eq_true,decide_eq_true_iff,decide_eq_true_iff]
   have h63:(2:Int) ^ 63=9223372036854775808:=by decide
   rw[h63]
   constructor<;>lia
  rw[this]
  decide
 have key:∀x:Int,x=(k:Int)->wpAny (model X.prog X.w) X.A (call (.builtin "list.insert") [.ref l,.int x t,u]) (EP X pins σ Q) X.xe s:=fun x hx=>by
  have hfit':¬((!Builtin.List.listFitsIndex x)=true):=by rw[hx];exact hfit
  refine call_meets F.slot_list_insert ⟨_,e,rfl⟩ F.entry_list_insert (F.args_list_insert_3 _ _ _) (PySem.AutoSeq1.list_insert_list_int_val_1 l _ n x t u hfit' (by rw[List.size_toArray,sizeLine_eq];lia)) ⟨e,?_⟩
  refine⟨.non,_,I.lset (its':=W8 k u its) hH e ?_ ((Vals.take k r).append (.cons ru (Vals.drop k r))) ?_,rfl,q⟩
  ·have e1:(if x<0 then(x+(its.toArray.size:Int)).toNat else min x.toNat its.toArray.size)=k:=by
    rw[if_neg (by lia),List.size_toArray]
    lia
   show(its.toArray.extract 0 (if x<0 then(x+(its.toArray.size:Int)).toNat else min x.toNat its.toArray.size)).push u++its.toArray.extract (if x<0 then(x+(its.toArray.size:Int)).toNat else min x.toNat its.toArray.size)=_
   rw[e1]
   apply Array.ext'
   simp[W8]
   exact List.take_of_length_le (by rw[List.length_drop];exact Nat.le_refl _)
  ·show(W8 k y xs).length<=_
   unfold W8
   rw[sizeLine_eq,List.length_append,List.length_cons,List.length_take,List.length_drop]
   lia
 exact key _ rfl
def Zde (i:Nat)(f g:Zf->M D)(sd:Zf):M O:=match sd[i]? with
 |some (some (.ow ds))=>(f sd).bind fun k=>(g sd).bind fun d=>match k with
  |.int k=>if 0<=k/\k<=(ds.length:Int)/\ds.length<=1000000 then .ok (.nx (sd.set i (some (.ow (W8 k.toNat d ds))))) else .bad
  |_=>.bad
 |_=>.bad
def Reps.ins {K:Frag}{H:Hp}{ds:List D}{xs:List V}{d:D}{v:V}(k:Nat)(r:Reps K H ds xs)(h:Rep K H d v):Reps K H (W8 k d ds) (W8 k v xs):=(r.take k).append (Reps.cons h (r.drop k))
def Zgi (i:Nat){x:Str}{e e2:Expr}{f g:Zf->M D}{p1 p2 p3:Pos}(h:Y0 X E e f)(h':Y0 X E e2 g)(hi:X.N[i]?=some x:=by rfl)(hv:Rz X.env.scope x:=by trivial)
  (hd:(x==("__debug__":Str))=false:=by decide) (hcd:(x==("__classdict__":Str))=false:=by decide)
  (hse:starEach [e,e2] X.env=(false,eval e X.env)::starEach [e2] X.env:=by rfl) (hse2:starEach [e2] X.env=(false,eval e2 X.env)::starEach [] X.env:=by rfl)
  (hbase:attributeBase (.Name x p1) "insert" X.env (eval (.Name x p1) X.env)=eval (.Name x p1) X.env:=by rfl)
  (hfew:((backTo p3 (starEach [e,e2] X.env)).all (fun x=>!x.1)&&(backToKw p3 (keywordEach [] X.env)).all (fun x=>x.1.isSome)
   && decide ([e,e2].length+([]:List Keyword).length+(if([]:List Keyword).isEmpty then 0 else 1)<30))=true:=by rfl)
  (hline:(p2.endLine==p3.line)=true:=by rfl) (hplain:(backTo p3 (starEach [e2] X.env)).any (·.1)=false:=by rfl)
  (hsw:swapsWith (.Call (.Attribute (.Name x p1) "insert" p2) [e,e2] [] p3) none pos.line X.env=pure false:=by rfl):
  N8 X E (.Expr (.Call (.Attribute (.Name x p1) "insert" p2) [e,e2] [] p3) pos) (Zde i f g):=by
 obtain⟨t,pt,q⟩:=h
 obtain⟨t',pt',q'⟩:=h'
 refine⟨_,V6 (Zbs PySem.F.plainAttrs_list PySem.F.slot_list_insert PySem.F.type_list_insert Zae (Z9 hi hv hd hcd) (Qh pt (Qh pt' Xa hse2) hse) hbase hfew hline hse hplain) hsw,fun H0 B Hf sd σ H D sr h=>?_⟩
 unfold Zde at h
 split at h
 ·rename_i ds ei
  obtain⟨p,z1,z2,z3,xs,z4,z5⟩:=sr.ow i _ ei rfl
  refine⟨_,z1,.inl ⟨rfl,xs,SqL.of z4⟩,?_⟩
  refine q H0 B Hf sd σ H _ sr (PoS.bind sr h fun k v Hf1 H1 _ g1 sr1 rv h1=>?_)
  refine q' H0 B Hf1 sd σ H1 _ sr1 (PoS.bind sr1 h1 fun d v' Hf2 H2 _ g2 sr2 rv' h2=>?_)
  split at h2
  ·split at h2
   ·rename_i k _ hf
    obtain⟨f1,f2,f3⟩:=hf
    have z5':=(z5.mono g1.fz).mono g2.fz
    have hl:=z5.length
    cases rep_int.mp rv
    refine⟨p,xs,k.toNat,v',rfl,by rw[Int.toNat_of_nonneg f1],g2.all _ _ (g1.all _ _ z4),by lia,by lia,?_⟩
    exact h2 _ Hf2 _ (Same.refl _) (sr2.change ei rfl z1 rfl ⟨_,Zo,Reps.ins _ z5' rv'⟩)
   ·exact h2.elim
  ·exact h2.elim
 ·exact h.elim
end
def Mo {X:Cx}{E:XK}{pos:Pos}{k:Nat}{ps:List Str}{F:List D->M S}{x:Str}{p:Pos}{a:Expr}{es:List Expr}{fs:Zf->M (List D)}(c:Cl X.prog X.w X.K X.mg X.base k x ps F)(hr:Room k X.A)(ha:T3 X E (a::es) fs)(hg:Gl X x:=by rfl) (hdb:(x==("__debug__":Str))=false:=by decide) (he:starEach (a::es) X.env=(false,eval a X.env)::starEach es X.env:=by rfl) (hpl:(backTo pos (starEach es X.env)).any (·.1)=false:=by rfl):
  Zfs X E (.Call (.Name x p) (a::es) [] pos) (Rc F fs):=
 let ⟨_,_,G,b,k,m⟩:=c.ex
 Zca G hr m k b ha hg hdb he hpl
def Cy {X:Cx}{E:XK}{pos:Pos}{k:Nat}{ps:List Str}{F:List D->M S}{x:Str}{p:Pos}{a:Expr}{es:List Expr}{fs:Zf->M (List D×Zf)}(c:Cl X.prog X.w X.K X.mg X.base k x ps F)(hr:Room k X.A)(ha:Zcw X E (a::es) fs)(hg:Gl X x:=by rfl) (hdb:(x==("__debug__":Str))=false:=by decide) (he:starEach (a::es) X.env=(false,eval a X.env)::starEach es X.env:=by rfl) (hpl:(backTo pos (starEach es X.env)).any (·.1)=false:=by rfl):
  Zjs X E (.Call (.Name x p) (a::es) [] pos) (Me F fs):=
 let ⟨_,_,G,b,k,m⟩:=c.ex
 Zf6 G hr m k b ha hg hdb he hpl
section
variable {X:Cx}{E:XK}{pos:Pos}
def Zoh:V->List V->Hp->VK->Prop:=fun x vs H Q=>∃(l:Addr) (xs:List V),x=.ref l/\vs=[]/\H l=some (.lst xs)/\xs.length<=1000000/\Q .non (upd H l (.lst xs.reverse))
def E6:Zm8 X "list.reverse" Zoh:=by
 intro pins s σ H x vs v us Q I rx rv h
 obtain⟨l,xs,rfl,rfl,hH,hl,q⟩:=h
 cases rx
 cases rv
 obtain⟨z,its,n,r,hl',e⟩:=I.lstM hH
 have hlen:=r.length
 refine call_meets F.slot_list_reverse ⟨_,e,rfl⟩ F.entry_list_reverse (F.args_list_reverse_1 _) (PySem.AutoSeq1.list_reverse_list_0 l _ n (by rw[List.size_toArray,sizeLine_eq];lia)) ⟨e,?_⟩
 refine⟨.non,_,I.lset (its':=its.reverse) hH e ?_ (Vals.rev r) ?_,rfl,q⟩
 ·simp
 ·rw[sizeLine_eq,List.length_reverse];lia
def Zka (i:Nat)(sd:Zf):M O:=match sd[i]? with
 |some (some (.ow ds))=>if ds.length<=1000000 then .ok (.nx (sd.set i (some (.ow ds.reverse)))) else .bad
 |_=>.bad
def Zgj (i:Nat){x:Str}{p1 p2 p3:Pos}(hi:X.N[i]?=some x:=by rfl)(hv:Rz X.env.scope x:=by trivial)
  (hd:(x==("__debug__":Str))=false:=by decide) (hcd:(x==("__classdict__":Str))=false:=by decide)
  (hbase:attributeBase (.Name x p1) "reverse" X.env (eval (.Name x p1) X.env)=eval (.Name x p1) X.env:=by rfl)
  (hline:(p2.endLine==p3.line)=true:=by rfl)
  (hsw:swapsWith (.Call (.Attribute (.Name x p1) "reverse" p2) [] [] p3) none pos.line X.env=pure false:=by rfl):
  N8 X E (.Expr (.Call (.Attribute (.Name x p1) "reverse" p2) [] [] p3) pos) (Zka i):=by
 refine⟨_,V6 (Zbr PySem.F.plainAttrs_list PySem.F.slot_list_reverse PySem.F.type_list_reverse E6 (Z9 hi hv hd hcd) hbase hline) hsw,fun H0 B Hf sd σ H D sr h=>?_⟩
 unfold Zka at h
 split at h
 ·rename_i ds ei
  split at h
  ·rename_i hf
   obtain⟨p,z1,z2,z3,xs,z4,z5⟩:=sr.ow i _ ei rfl
   have hl:=z5.length
   refine⟨_,z1,.inl ⟨rfl,xs,SqL.of z4⟩,p,xs,rfl,rfl,z4,by lia,?_⟩
   exact h _ Hf _ (Same.refl _) (sr.change ei rfl z1 rfl ⟨_,Zo,Reps.rev z5⟩)
  ·exact h.elim
 ·exact h.elim
end
end DL
namespace Law
open PySem L2 DL
def top (i:Nat):Stmt:=PySem.Challenge.pw_selfsight_k24_images.main.body.getD i (.Pass ⟨0,0,0,0⟩)
abbrev J9:Stmt:=top 1
abbrev Te:Stmt:=top 2
abbrev Bp:Stmt:=top 3
abbrev W9:Stmt:=top 6
abbrev Uh:Stmt:=top 7
abbrev Vd:Stmt:=top 8
abbrev Bq:Stmt:=top 9
abbrev Jb:Stmt:=top 10
abbrev Wd:Stmt:=top 14
abbrev Km:Stmt:=top 15
abbrev Ps:Stmt:=top 16
abbrev Ve:Stmt:=top 17
abbrev Ui:Stmt:=top 18
abbrev Ga:Stmt:=top 19
abbrev Vv:Stmt:=top 20
abbrev We:Stmt:=top 21
abbrev Qy:Stmt:=top 22
abbrev E7:Stmt:=top 23
abbrev Q6:Stmt:=top 25
abbrev Jp:Stmt:=top 26
abbrev Tf:Stmt:=top 27
abbrev Xl:Stmt:=top 28
abbrev Tg:Stmt:=top 30
abbrev Wf:Stmt:=top 31
abbrev Gb:Stmt:=top 32
abbrev Gc:Stmt:=top 33
abbrev Ti:Stmt:=top 34
abbrev Tj:Stmt:=top 35
abbrev Tl:Stmt:=top 36
abbrev Gd:Stmt:=top 37
abbrev Tm:Stmt:=top 38
abbrev Br:Stmt:=top 39
abbrev Vw:Stmt:=top 40
abbrev Tn:Stmt:=top 41
abbrev K2:Stmt:=top 42
abbrev Pt:Stmt:=top 43
abbrev No:Stmt:=top 44
abbrev Kx:Stmt:=Nf (top 12) 0
abbrev Wg:Stmt:=Nf (top 12) 1
abbrev Uj:Stmt:=Nf (top 12) 2
abbrev Uk:Stmt:=Nf (top 13) 0
abbrev Ul:Stmt:=Nf (top 13) 1
abbrev Ge:Stmt:=Nf (top 13) 2
abbrev Pu:Stmt:=Nf (top 13) 3
abbrev Bs:Stmt:=Nf (top 13) 4
abbrev Wh:Stmt:=Nf (top 13) 5
section
variable {P:Program}{w:World}{K:PySem.W.Frag}{mg:Str->Option Value}{base:Heap}
noncomputable def Xs:List D->M S:=V8 2 3
  (Zu (Z8 2 (Jx Vt (Zc (Zd 0) Zj)))
   (Zu (Z8 3 (Jx Vt (Zc (Zd 1) Zj)))
   (Zu (W5 (tB (Zn Ww (Zd 3) ↑0)) (Zu (Z8 4 (Zn Q5 (Zd 2) (Zd 3)))
   (Zu (Z8 2 (Zd 3))
   (Z8 3 (Zd 4)))))
   (Qv (Zd 2)))))
def sc_common_divisor:FnScope ["one","other","greater","lesser","rest"] ["one","other"] (Zi J9):=⟨rfl,rfl,rfl,by decide +kernel,rfl,by decide +kernel,by decide +kernel⟩
def Np (d:Dm K mg "common_divisor" J9) (z_abs:mg "abs"=none):Cl P w K mg base 1 "common_divisor" ["one","other"] Xs:=
 d.cl (by trivial) fun _ _ F=>Jj F sc_common_divisor rfl rfl fun cdv A outer s H E hr=>
  (Zh (Zq 2 sc_common_divisor.nd (Ql U4 (by rfl) z_abs (by rfl) (Za (Zb 0) Ze)))
   (Zh (Zq 3 sc_common_divisor.nd (Ql U4 (by rfl) z_abs (by rfl) (Za (Zb 1) Ze)))
   (Zh (L3 PassesOwn.never (Zy (Wz hr.units) (Zb 3) Zg (Zx _)) (Zh (Zq 4 sc_common_divisor.nd (Zr Ya (Zb 2) (Zb 3)))
   (Zh (Zq 2 sc_common_divisor.nd (Zb 3))
   (Zl (Zq 3 sc_common_divisor.nd (Zb 4))))))
   (Zl (Zt (Zb 2))))))
noncomputable def Jq:List D->M S:=V8 2 1
  (Zu (Z8 2 (Zv Xs (Zc (Zd 0) (Zc (Zd 1) Zj))))
   (Qv (Qn (Zc (Zn Yv (Zd 0) (Zd 2)) (Zc (Zn Yv (Zd 1) (Zd 2)) Zj)))))
def sc_amount:FnScope ["top","bottom","divisor"] ["top","bottom"] (Zi Te):=⟨rfl,rfl,rfl,by decide +kernel,rfl,by decide +kernel,by decide +kernel⟩
def Zaf (d:Dm K mg "amount" Te) (c_common_divisor:Cl P w K mg base 1 "common_divisor" ["one","other"] Xs):Cl P w K mg base 2 "amount" ["top","bottom"] Jq:=
 d.cl (by trivial) fun _ _ F=>Jj F sc_amount rfl rfl fun cdv A outer s H E hr=>
  (Zh (Zq 2 sc_amount.nd (Z4 c_common_divisor (hr.mono (by decide)) (Za (Zb 0) (Za (Zb 1) Ze))))
   (Zl (Zt (Qd (Za (Zr Y6 (Zb 0) (Zb 2)) (Za (Zr Y6 (Zb 1) (Zb 2)) Ze))))))
noncomputable def Ky:List D->M S:=V8 2 0
  (Qv (Zn T7 (Zn Zs 0[0]! 1[1]!) (Zn Zs 1[0]! 0[1]!)))
def Zdf:FnScope ["one","other"] ["one","other"] (Zi Bp):=⟨rfl,rfl,rfl,by decide +kernel,rfl,by decide +kernel,by decide +kernel⟩
def Zdg (d:Dm K mg "below" Bp)  : Cl P w K mg base 1 "below" ["one","other"] Ky:=
 d.cl (by trivial) fun _ _ F=>Jj F Zdf rfl rfl fun cdv A outer s H E hr=>
  (Zl (Zt (X7 Gv (Zr Z5 (Zz (Zb 0)) (Zz (Zb 1))) (Zr Z5 (Zz (Zb 1)) (Zz (Zb 0))) (Zx _))))
noncomputable def Um:List D->M S:=V8 1 0
  (Qv (Rq (D0 "int" (Zd 0)) (Zl3 (D0 "bool" (Zd 0)))))
def Cz:FnScope ["value"] ["value"] (Zi W9):=⟨rfl,rfl,rfl,by decide +kernel,rfl,by decide +kernel,by decide +kernel⟩
def C2 (d:Dm K mg "is_whole" W9) (z_isinstance:mg "isinstance"=none) (z_int:mg "int"=none) (z_bool:mg "bool"=none):Cl P w K mg base 1 "is_whole" ["value"] Um:=
 d.cl (by trivial) fun _ _ F=>Jj F Cz rfl rfl fun cdv A outer s H E hr=>
  (Zl (Zt (Pa (Xq "int" (by rfl) z_isinstance z_int (by rfl) (by rfl) (Zb 0)) (Sq (Zje (Xq "bool" (by rfl) z_isinstance z_bool (by rfl) (by rfl) (Zb 0)))))))
noncomputable def Y7:List D->M S:=V8 3 0
  (Qv (Rq (Zv Um (Zc (Zd 0) Zj)) (Rq (Zn Zi9 (Zd 1) (Zd 0)) (Zn Zi9 (Zd 0) (Zd 2)))))
def Lc:FnScope ["value","least","greatest"] ["value","least","greatest"] (Zi Uh):=⟨rfl,rfl,rfl,by decide +kernel,rfl,by decide +kernel,by decide +kernel⟩
def Ld (d:Dm K mg "is_from_to" Uh) (c_is_whole:Cl P w K mg base 1 "is_whole" ["value"] Um):Cl P w K mg base 2 "is_from_to" ["value","least","greatest"] Y7:=
 d.cl (by trivial) fun _ _ F=>Jj F Lc rfl rfl fun cdv A outer s H E hr=>
  (Zl (Zt (Pa (Z4 c_is_whole (hr.mono (by decide)) (Za (Zb 0) Ze)) (Pa (X7 Zbz (Zb 1) (Zb 0) (Zx _)) (Sq (X7 Zbz (Zb 0) (Zb 2) (Zx _)))))))
noncomputable def Xm:List D->M S:=V8 5 2
  (Zu (Z8 5 (Ao (tB (Zn Jw (Zd 2) ↑"up")) (Zd 3) (Zd 4)))
   (Zu (Z8 6 (Ao (tB (Zn Jw (Zd 2) ↑"up")) (Zd 0) (Zd 1)))
   (Zu (Jf (tB (Zn Jw (Zd 5) ↑0)) (Qv ↑3) Q8)
   (Zu (Jf (tB (Zn Jw (Zd 5) (Zd 6))) (Qv ↑4) Q8)
   (Qv (eC .non))))))
def sc_outward_face:FnScope ["width","height","kind","x","y","line","last"] ["width","height","kind","x","y"] (Zi Vd):=⟨rfl,rfl,rfl,by decide +kernel,rfl,by decide +kernel,by decide +kernel⟩
def Rx (d:Dm K mg "outward_face" Vd)  : Cl P w K mg base 1 "outward_face" ["width","height","kind","x","y"] Xm:=
 d.cl (by trivial) fun _ _ F=>Jj F sc_outward_face rfl rfl fun cdv A outer s H E hr=>
  (Zh (Zq 5 sc_outward_face.nd (Kh (Zy (Ye hr.units) (Zb 2) Qt (Zx _)) (Zb 3) (Zb 4)))
   (Zh (Zq 6 sc_outward_face.nd (Kh (Zy (Ye hr.units) (Zb 2) Qt (Zx _)) (Zb 0) (Zb 1)))
   (Zh (Qk (Zy (Ye hr.units) (Zb 5) Zg (Zx _)) (Zl (Zt Zg)) Qe)
   (Zh (Qk (Zy (Ye hr.units) (Zb 5) (Zb 6) (Zx _)) (Zl (Zt Zg)) Qe)
   (Zl (Zt X6))))))
noncomputable def Qx:List D->M S:=V8 4 1
  (Zu (Xr (Xi 0[2]!) (Yw 4) (Jf (tB (Zn Jw (L5 (Zd 4) Kp (Xd ↑3)) (Qn (Zc (Zd 1) (Zc (Zd 2) (Zc (Zd 3) Zj)))))) (Qv (L5 (Zd 4) (Xd ↑3) Kp)) Q8))
   (Zu (Jf (tB (Zn Zfu (Zv Xm (Zc 0[0]! (Zc 0[1]! (Zc (Zd 1) (Zc (Zd 2) (Zc (Zd 3) Zj)))))) (eC .non))) (Qv (eC .non)) Q8)
   (Qv (Qn (Zc ↑"p" (Zc ↑"p" Zj))))))
def sc_faces:FnScope ["hall","kind","x","y","side"] ["hall","kind","x","y"] (Zi Bq):=⟨rfl,rfl,rfl,by decide +kernel,rfl,by decide +kernel,by decide +kernel⟩
def Zdh (d:Dm K mg "faces" Bq) (c_outward_face:Cl P w K mg base 1 "outward_face" ["width","height","kind","x","y"] Xm):Cl P w K mg base 2 "faces" ["hall","kind","x","y"] Qx:=
 d.cl (by trivial) fun _ _ F=>Jj F sc_faces rfl rfl fun cdv A outer s H E hr=>
  (Zh (Yh PassesOwn.never rfl (Yq (Zz (Zb 0))) (Z3 4 sc_faces.nd) (Zl (Qk (Zy (Ye hr.units) (Ki (Zb 4) K7 (Jk Zg)) (Qd (Za (Zb 1) (Za (Zb 2) (Za (Zb 3) Ze)))) (Zx _)) (Zl (Zt (Ki (Zb 4) (Jk Zg) K7))) Qe)))
   (Zh (Qk (Zy Zcd (Z4 c_outward_face (hr.mono (by decide)) (Za (Zz (Zb 0)) (Za (Zz (Zb 0)) (Za (Zb 1) (Za (Zb 2) (Za (Zb 3) Ze)))))) X6 (Zx _)) (Zl (Zt X6)) Qe)
   (Zl (Zt (Qd (Za Qt (Za Qt Ze)))))))
noncomputable def Vn:List D->M S:=V8 3 3
  (Zu (Z8 3 0[0]!)
   (Zu (Z8 4 0[1]!)
   (Zu (Jf (tO (tN (tB (Zv Y7 (Zc (Zd 1) (Zc ↑0 (Zc (Zd 3) Zj)))))) (tN (tB (Zv Y7 (Zc (Zd 2) (Zc ↑0 (Zc (Zd 4) Zj))))))) (Qv (eC (.bl false))) Q8)
   (Zu (Jf (tO (tB (Zn Zft (Zd 1) (Qn (Zc ↑0 (Zc (Zd 3) Zj))))) (tB (Zn Zft (Zd 2) (Qn (Zc ↑0 (Zc (Zd 4) Zj)))))) (Qv (eC (.bl true))) Q8)
   (Zu (Z8 5 (Uv (Zc (Qn (Zc ↑"up" (Zc (Zd 1) (Zc (Zn Vs (Zd 2) ↑1) Zj)))) (Zc (Qn (Zc ↑"up" (Zc (Zd 1) (Zc (Zd 2) Zj)))) (Zc (Qn (Zc ↑"flat" (Zc (Zn Vs (Zd 1) ↑1) (Zc (Zd 2) Zj)))) (Zc (Qn (Zc ↑"flat" (Zc (Zd 1) (Zc (Zd 2) Zj)))) Zj))))))
   (Qv (Jx Zfr (Zc (U7 (Ut (Xi 0[2]!) 1 [5] (Yw 0) (Zn Zft (L5 (Zd 0) Kp (Xd ↑3)) (Zd 1)))) Zj))))))))
def sc_is_corner:FnScope ["hall","x","y","width","height","edges"] ["hall","x","y"] (Zi Jb):=⟨rfl,rfl,rfl,by decide +kernel,rfl,by decide +kernel,by decide +kernel⟩
def Bt (d:Dm K mg "is_corner" Jb) (c_is_from_to:Cl P w K mg base 2 "is_from_to" ["value","least","greatest"] Y7) (z_any:mg "any"=none):Cl P w K mg base 3 "is_corner" ["hall","x","y"] Vn:=
 d.cl (by trivial) fun _ _ F=>Jj F sc_is_corner rfl rfl fun cdv A outer s H E hr=>
  (Zh (Zq 3 sc_is_corner.nd (Zz (Zb 0)))
   (Zh (Zq 4 sc_is_corner.nd (Zz (Zb 0)))
   (Zh (Qk ((Kl (X2 (Yb (Z4 c_is_from_to (hr.mono (by decide)) (Za (Zb 1) (Za Zg (Za (Zb 3) Ze)))))) (Kf (X2 (Yb (Z4 c_is_from_to (hr.mono (by decide)) (Za (Zb 2) (Za Zg (Za (Zb 4) Ze))))))))).pt (Zl (Zt Gu)) Qe)
   (Zh (Qk ((Kl (Zy (Zcb (by exact hr.units)) (Zb 1) (Qd (Za Zg (Za (Zb 3) Ze))) (by with_unfolding_all rfl)) (Kf (Zy (Zcb (by exact hr.units)) (Zb 2) (Qd (Za Zg (Za (Zb 4) Ze))) (by with_unfolding_all rfl))))).pt (Zl (Zt Gu)) Qe)
   (Zh (Zq 5 sc_is_corner.nd (K5 (Za (Qd (Za Qt (Za (Zb 1) (Za (Zr J2 (Zb 2) Zg) Ze)))) (Za (Qd (Za Qt (Za (Zb 1) (Za (Zb 2) Ze)))) (Za (Qd (Za Qt (Za (Zr J2 (Zb 1) Zg) (Za (Zb 2) Ze)))) (Za (Qd (Za Qt (Za (Zb 1) (Za (Zb 2) Ze)))) Ze))))))
   (Zl (Zt (Ql (Zjg rfl) (by rfl) z_any (by rfl) (Za (Pf (U8 (Nc:=["side","edges"]) rfl (Ue (fun y hy hf=>Xy (Rt (sc:=Zi Jb) (by decide +kernel) y hy hf))) (Zfx (sc:=Zi Jb) rfl rfl (by decide +kernel) (Rt (by decide +kernel)) (fun y hy hf=>Xy (Rt (sc:=Zi Jb) (by decide +kernel) y hy hf)) rfl (R6 (N:=["hall","x","y","width","height","edges"]) rfl (by decide +kernel))) rfl (by decide +kernel) (by decide +kernel) (K0 (by decide)) (Yq (Zz (Zb 0))) (fun s3 H3 C ex=>Z3 0 (show(["side","edges"]:List Str).Nodup by decide +kernel)) (fun s3 H3 C ex=>(X7 (Zcb (by exact hr.units)) (Ki (Zb 0) K7 (Jk Zg)) (Zb 1) (by with_unfolding_all rfl))))) Ze)))))))))
noncomputable def Y3:List D->M S:=V8 1 0
  (Qv (Zn Yv 0[0]! 0[1]!))
def Bu:FnScope ["place"] ["place"] (Zi Wd):=⟨rfl,rfl,rfl,by decide +kernel,rfl,by decide +kernel,by decide +kernel⟩
def Bv (d:Dm K mg "square_of" Wd)  : Cl P w K mg base 1 "square_of" ["place"] Y3:=
 d.cl (by trivial) fun _ _ F=>Jj F Bu rfl rfl fun cdv A outer s H E hr=>
  (Zl (Zt (Zr Y6 (Zz (Zb 0)) (Zz (Zb 0)))))
noncomputable def Yn:List D->M S:=V8 2 3
  (Zu (Z8 2 ↑1)
   (Zu (Xr (E4 (Zc (Zd 0) (Zc (Zd 1) Zj))) (Gy 2 (Yk (Yw 3) (Yk (Yw 4) P9))) (Z8 2 (Zn Zs (Zn Zs (Zd 2) 3[1]!) (Jx Cu (Zc ↑1 (Zc (Jx Vt (Zc 4[0]! Zj)) Zj))))))
   (Qv (Zd 2))))
def sc_whole_time_of:FnScope ["point","step","time","begin","part"] ["point","step"] (Zi Km):=⟨rfl,rfl,rfl,by decide +kernel,rfl,by decide +kernel,by decide +kernel⟩
def Pv (d:Dm K mg "whole_time_of" Km) (z_zip:mg "zip"=none) (z_abs:mg "abs"=none) (z_max:mg "max"=none):Cl P w K mg base 1 "whole_time_of" ["point","step"] Yn:=
 d.cl (by trivial) fun _ _ F=>Jj F sc_whole_time_of rfl rfl fun cdv A outer s H E hr=>
  (Zh (Zq 2 sc_whole_time_of.nd Zg)
   (Zh (Yh PassesOwn.never rfl (Zad (by rfl) z_zip (Za (Zb 0) (Za (Zb 1) Ze))) (R4 rfl (Ym (Z3 3 sc_whole_time_of.nd) (Ym (Z3 4 sc_whole_time_of.nd) Gx))) (Zl (Zq 2 sc_whole_time_of.nd (Zr Z5 (Zr Z5 (Zb 2) (Zz (Zb 3))) (Ql (Zgd rfl) (by rfl) z_max (by rfl) (Za Zg (Za (Ql U4 (by rfl) z_abs (by rfl) (Za (Zz (Zb 4)) Ze)) Ze)))))))
   (Zl (Zt (Zb 2)))))
noncomputable def X0:List D->M S:=V8 3 0
  (Zu (Jf (tB (Zn Jw (Zd 0) ↑"corner")) (Qv ↑"corner") Q8)
   (Zu (Jf (tB (Zd 1)) (Qv ↑"end") Q8)
   (Zu (Jf (tB (Zn Jw (Zd 0) ↑"p")) (Qv ↑"plain") Q8)
   (Zu (Jf (tA (tB (Zn Jw (Zd 0) ↑"m")) (tN (tB (Zd 2)))) (Qv ↑"many") Q8)
   (Qv (eC .non))))))
def To:FnScope ["thing","is_over","may_turn"] ["thing","is_over","may_turn"] (Zi Vv):=⟨rfl,rfl,rfl,by decide +kernel,rfl,by decide +kernel,by decide +kernel⟩
def Tp (d:Dm K mg "how_it_ends" Vv)  : Cl P w K mg base 1 "how_it_ends" ["thing","is_over","may_turn"] X0:=
 d.cl (by trivial) fun _ _ F=>Jj F To rfl rfl fun cdv A outer s H E hr=>
  (Zh (Qk (Zy (Ye hr.units) (Zb 0) Qt (Zx _)) (Zl (Zt Qt)) Qe)
   (Zh (Qk (Yb (Zb 1)) (Zl (Zt Qt)) Qe)
   (Zh (Qk (Zy (Ye hr.units) (Zb 0) Qt (Zx _)) (Zl (Zt Qt)) Qe)
   (Zh (Qk ((V7 (Zy (Ye hr.units) (Zb 0) Qt (Zx _)) (V0 (X2 (Yb (Zb 2)))))).pt (Zl (Zt Qt)) Qe)
   (Zl (Zt X6))))))
end
section
variable {P:Program}{w:World}{K:PySem.W.Frag}{mg:Str->Option Value}{base:Heap}
def Bw:FnScope ["self"] ["self"] (Zi Wh):=⟨rfl,rfl,rfl,by decide +kernel,rfl,by decide +kernel,by decide +kernel⟩
noncomputable def Wi:Qw->List D->Option Qw:=Zes 0 0 (Vc (Pq "heading" (Zou S0 (Ux "heading"))) (Zc3 "due" (Ux "lap")))
def Bx {f:Addr}{fd:FuncData}{C:Addr} (F:Fun K "turn_back" "Track.turn_back" Wh f fd) (tc:TkC K C):FnOk P w K mg base Yd 1 f fd ["self"] (Rv K C Wi):=
 Zgb F Bw rfl rfl fun cdv A outer s H E hr=>(Xk (Kv tc.oc.cls tc.n3 (Zjx Pj (Uf tc.oc.cls tc.n3))) (Vm (Bn tc.oc.cls tc.n4 (Uf tc.oc.cls tc.n5))))
def Zdi:FnScope ["self"] ["self"] (Zi Bs):=⟨rfl,rfl,rfl,by decide +kernel,rfl,by decide +kernel,by decide +kernel⟩
noncomputable def By:Qw->List D->Option Qw:=Zes 0 0 (Vc (Zc3 "square" (Ux "heading")) (Zc3 "due" (Ux "lap")))
def Zdj {f:Addr}{fd:FuncData}{C:Addr} (F:Fun K "go_on" "Track.go_on" Bs f fd) (tc:TkC K C):FnOk P w K mg base Yd 1 f fd ["self"] (Rv K C By):=
 Zgb F Zdi rfl rfl fun cdv A outer s H E hr=>(Xk (Bn tc.oc.cls tc.n2 (Uf tc.oc.cls tc.n3)) (Vm (Bn tc.oc.cls tc.n4 (Uf tc.oc.cls tc.n5))))
def Bz:FnScope ["track","now","thing"] ["track","now","thing"] (Zi We):=⟨rfl,rfl,rfl,by decide +kernel,rfl,by decide +kernel,by decide +kernel⟩
noncomputable def F_pass_line:Qw->List D->Option Qw:=Zes 2 0 (Zer (gB (D2 Jw (Ux "due") (Ku (Zd 1)))) (Zer (fun sd _=>DL.tB (Zn Jw (Zd 2) ↑"m") sd) (Hi "turn_back" Wi) (Hi "go_on" By)) Zjw)
def B2 {f:Addr}{fd:FuncData}{C f1 f2:Addr}{fd1 fd2:FuncData} (F:Fun K "pass_line" "pass_line" We f fd) (tc:TkC K C) (m1:Meth K C "turn_back" f1) (G1:FnOk P w K mg base Yd 1 f1 fd1 ["self"] (Rv K C Wi)) (b1:Binds K fd1 ["self"] []) (m2:Meth K C "go_on" f2) (G2:FnOk P w K mg base Yd 1 f2 fd2 ["self"] (Rv K C By)) (b2:Binds K fd2 ["self"] []):
  FnOk P w K mg base Yd 2 f fd ["track","now","thing"] (Rv K C F_pass_line):=
 Zgb F Bz rfl rfl fun cdv A outer s H E hr=>(Vm (E1 (Hj (Ye hr.units) (Uf tc.oc.cls tc.n4) (Xe (Zb 1)) (Zx _)) (Vm (E1 (Hl (Zy (Ye hr.units) (Zb 2) Qt (Zx _))) (Vm (Cs tc.oc.cls m1 G1 (hr.mono (by decide)) b1)) (Vm (Cs tc.oc.cls m2 G2 (hr.mono (by decide)) b2)))) Hm))
def sc_Track_init:FnScope ["self","begin","part","whole_time","behind","left"] ["self","begin","part","whole_time"] (Zi Uk):=⟨rfl,rfl,rfl,by decide +kernel,rfl,by decide +kernel,by decide +kernel⟩
noncomputable def Jr:Qw->List D->Option Qw:=Zes 3 2
 (Vc (Pq "begin" (Ku (Zd 1)))
 (Vc (Pq "square" (Ku (Zv Y3 (Zc (Zd 1) Zj))))
 (Vc (Pq "heading" (Ku ↑0))
 (Vc (Pq "due" (Ku (Zn Qg (Zd 3) ↑1)))
 (Vc (Pq "lap" (Ku ↑0))
 (Zer (fun sd _=>DL.tB (Zn Ww 2[0]! ↑0) sd)
  (Vc (Pq "heading" (Ku (Ao (DL.tB (Zn Rp 2[0]! ↑0)) ↑1 (F6 S0 ↑1))))
  (Vc (Pq "lap" (Ku (Zn Zs 2[1]! (Zn Yv (Zd 3) (Jx Vt (Zc 2[0]! Zj))))))
  (Vc (Zab 4 (Ku (Zn Q5 1[0]! 1[1]!)))
  (Vc (Zab 5 (Zga (gB (D2 Rp (Ux "heading") (Ku ↑0))) (Ku (Zn Vs 1[1]! (Zd 4))) (Ku (Zd 4))))
   (Pq "due" (D2 Zs (Ku (Zd 5)) (D2 Yv (Ux "lap") (Ku 1[1]!)))))))) Zjw))))))
def Le {f:Addr}{fd:FuncData}{C:Addr} (F:Fun K "__init__" "Track.__init__" Uk f fd) (tc:TkC K C) {f1:Addr}{fd1:FuncData} (G1:FnOk P w K mg base Yd 1 f1 fd1 ["place"] (Sr K Y3)) (b1:Binds K fd1 ["place"] []) (k1:PySem.W.keepIn K (.ref f1)=true) (m1:mg "square_of"=some (.ref f1)) (z_abs:mg "abs"=none):
  FnOk P w K mg base Yd 2 f fd ["self","begin","part","whole_time"] (Rv K C Jr):=
 Zgb F sc_Track_init rfl rfl fun cdv A outer s H E hr=>
  (Xk (Kv tc.oc.cls tc.n1 (Xe (Zb 1)))
  (Xk (Kv tc.oc.cls tc.n2 (Xe (Xb G1 (hr.mono (by decide)) m1 k1 b1 (Za (Zb 1) Ze))))
  (Xk (Kv tc.oc.cls tc.n3 (Xe Zg))
  (Xk (Kv tc.oc.cls tc.n4 (Xe (Zr Qu (Zb 3) Zg)))
  (Xk (Kv tc.oc.cls tc.n5 (Xe Zg))
  (Vm (E1 (Hl (Zy (Wz hr.units) (Zz (Zb 2)) Zg (Zx _)))
   (Xk (Kv tc.oc.cls tc.n3 (Xe (Kh (Zy P8 (Zz (Zb 2)) Zg (Zx _)) Zg (Ch Pj Zg))))
   (Xk (Kv tc.oc.cls tc.n5 (Xe (Zr Z5 (Zz (Zb 2)) (Zr Y6 (Zb 3) (Ql U4 (by rfl) z_abs (by rfl) (Za (Zz (Zb 2)) Ze))))))
   (Xk (Hn 4 sc_Track_init.nd (Xe (Zr Ya (Zz (Zb 1)) (Zz (Zb 1)))))
   (Xk (Hn 5 sc_Track_init.nd (Zjy (Hj P8 (Uf tc.oc.cls tc.n3) (Xe Zg) (Zx _)) (Xe (Zr J2 (Zz (Zb 1)) (Zb 4))) (Xe (Zb 4))))
   (Vm (Kv tc.oc.cls tc.n4 (Zc4 Z5 (Xe (Zb 5)) (Zc4 Y6 (Uf tc.oc.cls tc.n5) (Xe (Zz (Zb 1))))))))))) Hm)))))))
def Lf:FnScope ["self"] ["self"] (Zi Ul):=⟨rfl,rfl,rfl,by decide +kernel,rfl,by decide +kernel,by decide +kernel⟩
noncomputable def Qo:List S->M S:=Hh 1 0 (Qv (Ao (DL.tB (Zn Rp (Q4 0 "Track" "heading") ↑0)) (Zn Qg (Q4 0 "Track" "square") ↑1) (Q4 0 "Track" "square")))
def Lg {f:Addr}{fd:FuncData}{C:Addr} (F:Fun K "line_ahead" "Track.line_ahead" Ul f fd) (tc:TkC K C):FnOk P w K mg base Yd 1 f fd ["self"] (Rh K Qo):=
 Ew F Lf rfl rfl fun cdv A outer s H E hr=>
  (Zl (Zt (Kh (Zy P8 (Qs 0 tc.oc tc.n3) Zg (Zx _)) (Zr Qu (Qs 0 tc.oc tc.n2) Zg) (Qs 0 tc.oc tc.n2))))
end
section
variable {P:Program}{w:World}{K:PySem.W.Frag}{mg:Str->Option Value}{base:Heap}
def C3:FnScope ["self","time"] ["self","time"] (Zi Ge):=⟨rfl,rfl,rfl,by decide +kernel,rfl,by decide +kernel,by decide +kernel⟩
noncomputable def Yf:List S->M S:=Hh 2 0
 (Zu (Jf (DL.tB (Zn Jw (Q4 0 "Track" "heading") ↑0)) (Qv (Q4 0 "Track" "begin")) Q8)
  (Qv (Zv Jq (Zc (Zn Vs (Zn Zs (Xj 0 "Track" "line_ahead" Qo Zj) (Q4 0 "Track" "lap")) (Zn Zs (Q4 0 "Track" "heading") (Zn Vs (Q4 0 "Track" "due") (Zd 1)))) (Zc (Q4 0 "Track" "lap") Zj)))))
def C4 {f:Addr}{fd:FuncData}{C:Addr} (F:Fun K "place_at" "Track.place_at" Ge f fd) (tc:TkC K C) {f1 f2:Addr}{fd1 fd2:FuncData}
  (m1:Meth K C "line_ahead" f1) (G1:FnOk P w K mg base Yd 1 f1 fd1 ["self"] (Rh K Qo)) (b1:Binds K fd1 ["self"] [])
  (G2:FnOk P w K mg base Yd 2 f2 fd2 ["top","bottom"] (Sr K Jq)) (b2:Binds K fd2 ["top","bottom"] []) (k2:PySem.W.keepIn K (.ref f2)=true) (m2:mg "amount"=some (.ref f2)):FnOk P w K mg base Yd 3 f fd ["self","time"] (Rh K Yf):=
 Ew F C3 rfl rfl fun cdv A outer s H E hr=>
  (Zh (Qk (Zy (Ye hr.units) (Qs 0 tc.oc tc.n3) Zg (Zx _)) (Zl (Zt (Qs 0 tc.oc tc.n1))) Qe)
   (Zl (Zt (Xb G2 (hr.mono (by decide)) m2 k2 b2 (Za (Zr J2 (Zr Z5 (K1 0 tc.oc m1 G1 (hr.mono (by decide)) b1) (Qs 0 tc.oc tc.n5)) (Zr Z5 (Qs 0 tc.oc tc.n3) (Zr J2 (Qs 0 tc.oc tc.n4) (Zb 1)))) (Za (Qs 0 tc.oc tc.n5) Ze))))))
def sc_time_at:FnScope ["self","place","left"] ["self","place"] (Zi Pu):=⟨rfl,rfl,rfl,by decide +kernel,rfl,by decide +kernel,by decide +kernel⟩
noncomputable def K3:List S->M S:=Hh 2 1
 (Zu (Z8 2 (Zn Zs (Q4 0 "Track" "heading") (Zn Vs (Zn Zs (Xj 0 "Track" "line_ahead" Qo Zj) 1[1]!) 1[0]!)))
  (Qv (Zv Jq (Zc (Zn Vs (Zn Zs (Q4 0 "Track" "due") 1[1]!) (Zn Zs (Zd 2) (Q4 0 "Track" "lap"))) (Zc 1[1]! Zj)))))
def E8 {f:Addr}{fd:FuncData}{C:Addr} (F:Fun K "time_at" "Track.time_at" Pu f fd) (tc:TkC K C) {f1 f2:Addr}{fd1 fd2:FuncData}
  (m1:Meth K C "line_ahead" f1) (G1:FnOk P w K mg base Yd 1 f1 fd1 ["self"] (Rh K Qo)) (b1:Binds K fd1 ["self"] [])
  (G2:FnOk P w K mg base Yd 2 f2 fd2 ["top","bottom"] (Sr K Jq)) (b2:Binds K fd2 ["top","bottom"] []) (k2:PySem.W.keepIn K (.ref f2)=true) (m2:mg "amount"=some (.ref f2)):FnOk P w K mg base Yd 3 f fd ["self","place"] (Rh K K3):=
 Ew F sc_time_at rfl rfl fun cdv A outer s H E hr=>
  (Zh (Zq 2 sc_time_at.nd (Zr Z5 (Qs 0 tc.oc tc.n3) (Zr J2 (Zr Z5 (K1 0 tc.oc m1 G1 (hr.mono (by decide)) b1) (Zz (Zb 1))) (Zz (Zb 1)))))
   (Zl (Zt (Xb G2 (hr.mono (by decide)) m2 k2 b2 (Za (Zr J2 (Zr Z5 (Qs 0 tc.oc tc.n4) (Zz (Zb 1))) (Zr Z5 (Zb 2) (Qs 0 tc.oc tc.n5))) (Za (Zz (Zb 1)) Ze))))))
def Lh:FnScope ["track","pair"] ["track","pair"] (Zi Ui):=⟨rfl,rfl,rfl,by decide +kernel,rfl,by decide +kernel,by decide +kernel⟩
noncomputable def F_face_ahead:List S->M S:=Hh 2 0
 (Zu (Jf (DL.tB (Zn Zfu (Zd 1) (eC .non))) (Qv (eC .non)) Q8)
  (Qv (Ao (DL.tB (Zn Rp (Q4 0 "Track" "heading") ↑0)) 1[0]! 1[1]!)))
def Li {f:Addr}{fd:FuncData}{C:Addr} (F:Fun K "face_ahead" "face_ahead" Ui f fd) (tc:TkC K C):FnOk P w K mg base Yd 1 f fd ["track","pair"] (Rh K F_face_ahead):=
 Ew F Lh rfl rfl fun cdv A outer s H E hr=>
  (Zh (Qk (Zy Zcd (Zb 1) X6 (Zx _)) (Zl (Zt X6)) Qe)
   (Zl (Zt (Kh (Zy P8 (Qs 0 tc.oc tc.n3) Zg (Zx _)) (Zz (Zb 1)) (Zz (Zb 1))))))
def sc_time_to:FnScope ["across","upward","person","times","track","place"] ["across","upward","person"] (Zi Ps):=⟨rfl,rfl,rfl,by decide +kernel,rfl,by decide +kernel,by decide +kernel⟩
noncomputable def F_time_to:List S->M S:=Hh 3 3
 (Zu (Wy 3 (T9 Zj))
 (Zu (Nl 4 5 0 1 2[0]! 2[1]!
  (Jf (DL.tB (Zn Ww (Q4 4 "Track" "heading") ↑0)) (K8 3 (Xj 4 "Track" "time_at" K3 (Zc (Zd 5) Zj)))
   (Jf (DL.tB (Zn Ww (Zd 5) (Q4 4 "Track" "begin"))) (Qv (eC .non)) Q8)))
 (Bh 3 (Qv (Ao (DL.tB (Zn Jw 3[0]! (Zn Jg (Zd 3) (F6 S0 ↑1)))) 3[0]! (eC .non))))))
def E9 {f:Addr}{fd:FuncData}{C:Addr} (F:Fun K "time_to" "time_to" Ps f fd) (tc:TkC K C) {f1:Addr}{fd1:FuncData}
  (m1:Meth K C "time_at" f1) (G1:FnOk P w K mg base Yd 3 f1 fd1 ["self","place"] (Rh K K3)) (b1:Binds K fd1 ["self","place"] []):FnOk P w K mg base Yd 4 f fd ["across","upward","person"] (Rh K F_time_to):=
 Ew F sc_time_to rfl rfl fun cdv A outer s H E hr=>
  (Zh (Jl 3 sc_time_to.nd (Kq Ze))
  (Zh (Zcz 4 5 0 1 PassesOwn.never rfl sc_time_to.nd (Zz (Zb 2)) (Zz (Zb 2))
   (Zl (Qk (Zy (Wz hr.units) (Qs 4 tc.oc tc.n3) Zg (Zx _)) (Zl (Kr 3 (Wc 4 tc.oc m1 G1 (hr.mono (by decide)) b1 (Za (Zb 5) Ze))))
    (Zl (Qk (Zy (Wz hr.units) (Zb 5) (Qs 4 tc.oc tc.n1) (Zx _)) (Zl (Zt X6)) Qe)))))
  (G9 3 (Zl (Zt (Kh (Zy (Ye hr.units) (Zz (Zb 3)) (Ji (Zb 3) (Ch Pj Zg) (fun _ _=>rfl)) (Zx _)) (Zz (Zb 3)) X6))))))
def B3:FnScope ["self","square"] ["self","square"] (Zi Wg):=⟨rfl,rfl,rfl,by decide +kernel,rfl,by decide +kernel,by decide +kernel⟩
noncomputable def Jc:List S->M S:=Hh 2 0 (Qv (Ex 0 (Zd 1) (Qn Zj)))
def B4 {f:Addr}{fd:FuncData}{C:Addr} (F:Fun K "people_at" "Floor.people_at" Wg f fd) (oc:ObC K "Floor" C) (na:NoAttr K C "by_square"):FnOk P w K mg base Yd 1 f fd ["self","square"] (Rh K Jc):=
 Ew F B3 rfl rfl fun cdv A outer s H E hr=>
  (Zl (Zt (Zc0 0 hr.units oc na (Zb 1) (Qd Ze))))
def sc_person_ahead:FnScope ["floor","across","upward","whole_time","first","soonest","person","time"] ["floor","across","upward","whole_time"] (Zi Ve):=⟨rfl,rfl,rfl,by decide +kernel,rfl,by decide +kernel,by decide +kernel⟩
noncomputable def F_person_ahead:List S->M S:=Hh 4 4
 (Zu (Z8 4 (eC .non))
 (Zu (Z8 5 (Qn (Zc (Zd 3) (Zc ↑1 Zj))))
 (Zu (Xr (Xi (S9 0 Jc (Zc (Qn (Zc (Q4 1 "Track" "square") (Zc (Q4 2 "Track" "square") Zj))) Zj))) (Yw 6)
  (Zu (Z8 7 (S8 F_time_to (V1 1 (V1 2 (Ni (Zd 6) Mg)))))
   (Jf (tA (DL.tB (Zn Ks (Zd 7) (eC .non))) (tA (DL.tB (Zv Ky (Zc (Qn (Zc ↑0 (Zc ↑1 Zj))) (Zc (Zd 7) Zj)))) (DL.tB (Zv Ky (Zc (Zd 7) (Zc (Zd 5) Zj))))))
    (Zu (Z8 4 (Zd 6)) (Z8 5 (Zd 7))) Q8)))
 (Qv (Zd 4)))))
def Ry {f:Addr}{fd:FuncData}{C CF:Addr} (F:Fun K "person_ahead" "person_ahead" Ve f fd) (tc:TkC K C) (oc:ObC K "Floor" CF) {f1 f2 f3:Addr}{fd1 fd2 fd3:FuncData}
  (m1:Meth K CF "people_at" f1) (G1:FnOk P w K mg base Yd 1 f1 fd1 ["self","square"] (Rh K Jc)) (b1:Binds K fd1 ["self","square"] [])
  (G2:FnOk P w K mg base Yd 4 f2 fd2 ["across","upward","person"] (Rh K F_time_to)) (b2:Binds K fd2 ["across","upward","person"] []) (k2:PySem.W.keepIn K (.ref f2)=true) (m2:mg "time_to"=some (.ref f2))
  (G3:FnOk P w K mg base Yd 1 f3 fd3 ["one","other"] (Sr K Ky)) (b3:Binds K fd3 ["one","other"] []) (k3:PySem.W.keepIn K (.ref f3)=true) (m3:mg "below"=some (.ref f3)):
  FnOk P w K mg base Yd 5 f fd ["floor","across","upward","whole_time"] (Rh K F_person_ahead):=
 Ew F sc_person_ahead rfl rfl fun cdv A outer s H E hr=>
  (Zh (Zq 4 sc_person_ahead.nd X6)
  (Zh (Zq 5 sc_person_ahead.nd (Qd (Za (Zb 3) (Za Zg Ze))))
  (Zh (Yh PassesOwn.never rfl (Yq (Zc1 0 oc m1 G1 (hr.mono (by decide)) b1 (Za (Qd (Za (Qs 1 tc.oc tc.n2) (Za (Qs 2 tc.oc tc.n2) Ze))) Ze))) (Z3 6 sc_person_ahead.nd)
   (Zh (Zq 7 sc_person_ahead.nd (Cq G2 (hr.mono (by decide)) m2 k2 b2 (Kt 1 (Kt 2 (Ws (Zb 6) R9)))))
    (Zl (Qk ((V7 (Zy Ph (Zb 7) X6 (Zx _)) (V7 (Yb (Xb G3 (hr.mono (by decide)) m3 k3 b3 (Za (Qd (Za Zg (Za Zg Ze))) (Za (Zb 7) Ze)))) (V0 (Yb (Xb G3 (hr.mono (by decide)) m3 k3 b3 (Za (Zb 7) (Za (Zb 5) Ze)))))))).pt
     (Zh (Zq 4 sc_person_ahead.nd (Zb 6)) (Zl (Zq 5 sc_person_ahead.nd (Zb 7)))) Qe))))
  (Zl (Zt (Zb 4))))))
end
section
variable {P:Program}{w:World}{K:PySem.W.Frag}{mg:Str->Option Value}{base:Heap}
def Zgk {n c:Nat}(h:n+64<c):n+1<c:=by omega
def C5:FnScope ["self","edge"] ["self","edge"] (Zi Uj):=⟨rfl,rfl,rfl,by decide +kernel,rfl,by decide +kernel,by decide +kernel⟩
def C6 {f:Addr}{fd:FuncData}{C:Addr} (F:Fun K "faces_at" "Floor.faces_at" Uj f fd) (oc:ObC K "Floor" C) (na1:NoAttr K C "hall") (na2:NoAttr K C "known_faces") {f1:Addr}{fd1:FuncData}
  (G1:FnOk P w K mg base Yd 2 f1 fd1 ["hall","kind","x","y"] (Sr K Qx)) (b1:Binds K fd1 ["hall","kind","x","y"] []) (k1:PySem.W.keepIn K (.ref f1)=true) (m1:mg "faces"=some (.ref f1)):
  FnOk P w K mg base Yd 3 f fd ["self","edge"] (Zjz K Qx):=by
 refine F.ok C5 (fun vs H Q E h=>?_) (fun cdv A outer s H vs Q E hr h=>?_)
 ·obtain⟨Hf,a,g,q,k,n,ds,ks,d,v,rfl,_⟩:=h
  rfl
 ·obtain⟨Hf,a,g,q,k,n,ds,ks,d,v,rfl,e,fl,hk,ca,hn,rv,ek,el,ed,q'⟩:=h
  obtain⟨tF,pF,qF⟩:Y0 (X5 Yd P w K mg base ["self","edge"] "Floor.faces_at" (Zi Uj) f cdv A outer s H E).nox E0 _ _:=Xb G1 (hr.mono (by decide)) m1 k1 b1 (Za (Ml 0 oc na1) (Za (Zz (Zb 1)) (Za (Zz (Zb 1)) (Za (Zz (Zb 1)) Ze))))
  refine⟨_,Qj (Fq (Zig (Ot (Zgk hr.units) (Z9 (i:=1) rfl (.inl rfl) (by decide) (by decide)) (U2 (Z9 (i:=0) rfl (.inl rfl) (by decide) (by decide)) rfl)) (by rfl)) (X1 (Zfi (Zgk hr.units) (U2 (Z9 (i:=0) rfl (.inl rfl) (by decide) (by decide)) rfl) (Z9 (i:=1) rfl (.inl rfl) (by decide) (by decide)) pF rfl)) R0) (X1 (W3 (Zfh (Zgk hr.units) (U2 (Z9 (i:=0) rfl (.inl rfl) (by decide) (by decide)) rfl) (Z9 (i:=1) rfl (.inl rfl) (by decide) (by decide)) (fun _ _=>rfl)))),?_⟩
  obtain⟨C',dx,gs,dq,ys,c1,c2,c3,c4,c5⟩:=id fl
  rw[oc.at_] at c1
  cases c1
  obtain⟨cc,zs,h1,h2,h3,h4⟩:=ca
  obtain⟨b,rfl,hb⟩:=Bi ek e rv
  match ds,el with
  |[d0,d1,d2],_=>
  refine⟨_,rfl,_,rfl,a,C,dx,gs,.ref k,rfl,e _ _ c2,oc.cls,na2,c3.kn,k,_,rfl,DGet.t h1 hb,_,rfl,?_⟩
  cases eg:Y2 cc ks with
  |some d'=>
   obtain⟨v',ev,rv'⟩:=h2.get ks eg
   have:=h4 _ _ _ ek eg
   rw[ed] at this
   cases this
   rw[ev]
   rw[if_neg (by simp)]
   refine⟨_,rfl,a,C,dx,gs,.ref k,rfl,e _ _ c2,oc.cls,na2,c3.kn,_,rfl,k,v',rfl,by rw[<-ev];exact DGet.t h1 hb,?_⟩
   exact q' v' Hf H (GrM.refl e) ⟨cc,zs,h1,h2,by lia,h4⟩ rv'
  |none=>
   rw[h2.none ks eg,if_pos (by rfl)]
   have sr:=Wt (K:=K) (N:=["self","edge"]) (ss:=[.fl a g q,.im (.tup [d0,d1,d2])]) (vs:=[.ref a,.ref b]) (m:=0) e (.cons ⟨rfl,fl.fl⟩ (.cons ⟨rfl,rv⟩ .nil)) rfl
   refine qF H _ Hf _ _ H _ sr ?_
   have ef:(Zv Qx (Zc (Sa 0) (Zc 1[0]! (Zc 1[1]! (Zc 1[2]! Zj))))) [some (.fl a g q),some (.im (.tup [d0,d1,d2]))]=.ok d:=by
    show(match Qx [g,d0,d1,d2] with | .ok s=>s.toD|_=>M.bad)=.ok d
    exact Zj0 ed
   rw[show([DL.S.fl a g q,DL.S.im (.tup [d0,d1,d2])].map some++List.replicate 0 none)=[some (.fl a g q),some (.im (.tup [d0,d1,d2]))] from rfl,ef]
   intro v1 Hf1 H1 g1 rv1
   have hs1:H1 k=some (.dT zs):=g1.all _ _ h1
   have hz:zs.length<sizeLine:=by lia
   refine⟨_,rfl,a,C,dx,gs,.ref k,rfl,g1.all _ _ (e _ _ c2),oc.cls,na2,c3.kn,_,rfl,k,_,rfl,DPut.t hs1 (g1.all _ _ hb) hz,?_⟩
   have hk1:Hf1 k=none:=g1.ban k ⟨_,h1,fun _ q=>by cases q⟩ hk
   have nka:a≠k:=fun z=>by rw[z,hk] at c2;cases c2
   have nkb:b≠k:=fun z=>by rw[z,h1] at hb;cases hb
   refine⟨_,rfl,a,C,dx,gs,.ref k,rfl,(Zm nka).trans (g1.all _ _ (e _ _ c2)),oc.cls,na2,c3.kn,_,rfl,k,v1,rfl,?_,?_⟩
   ·have:=DGet.t (H:=upd H1 k (.dT (Jz zs ks v1))) (a:=k) (k:=ks) Zo ((Zm nkb).trans (g1.all _ _ hb))
    rw[L2.Zbt,if_pos rfl] at this
    exact this
   ·refine q' v1 Hf1 _ ⟨g1.fz,fun x u hx=>?_,fun x u hx hu=>(Zm hx).trans (g1.all _ _ hu),g1.ban⟩ ⟨Zcg cc ks d,_,Zo,(h2.mono g1.fz).put ks rv1,?_,fun ds' ks' d' e1 e2=>?_⟩ rv1
    ·rw[Zm (Zw hx hk1)];exact g1.sub _ _ hx
    ·have:=Vg zs ks v1
     lia
    ·rw[Zc7 eg] at e2
     split at e2
     ·rename_i ee
      subst ee
      cases e2
      rw[Mj e1 ek]
      exact ed
     ·exact h4 _ _ _ e1 e2
end
section
variable {P:Program}{w:World}{K:PySem.W.Frag}{mg:Str->Option Value}{base:Heap}
def C7:FnScope ["floor","across","upward","now"] ["floor","across","upward","now"] (Zi Ga):=⟨rfl,rfl,rfl,by decide +kernel,rfl,by decide +kernel,by decide +kernel⟩
noncomputable def F_thing_at:List S->M D:=Zmg 4
 (Zhv (tA (DL.tB (Zn Jw (Q4 1 "Track" "due") (Zd 3))) (DL.tB (Zn Jw (Q4 2 "Track" "due") (Zd 3))))
  (Ao (DL.tB (Zv Vn (Zc (Sa 0) (Zc (Xj 1 "Track" "line_ahead" Qo Zj) (Zc (Xj 2 "Track" "line_ahead" Qo Zj) Zj))))) ↑"corner" (eC .non))
 (Zhv (DL.tB (Zn Jw (Q4 1 "Track" "due") (Zd 3)))
  (Wu Qx F_face_ahead 1 (Qn (Zc ↑"up" (Zc (Xj 1 "Track" "line_ahead" Qo Zj) (Zc (Q4 2 "Track" "square") Zj)))))
 (Zhv (DL.tB (Zn Jw (Q4 2 "Track" "due") (Zd 3)))
  (Wu Qx F_face_ahead 2 (Qn (Zc ↑"flat" (Zc (Q4 1 "Track" "square") (Zc (Xj 2 "Track" "line_ahead" Qo Zj) Zj)))))
 (eC .non))))
def C8 {f:Addr}{fd:FuncData}{C CF:Addr} (F:Fun K "thing_at" "thing_at" Ga f fd) (tc:TkC K C) (oc:ObC K "Floor" CF) (na1:NoAttr K CF "hall") {f1 f2 f3 f4:Addr}{fd1 fd2 fd3 fd4:FuncData}
  (m1:Meth K C "line_ahead" f1) (G1:FnOk P w K mg base Yd 1 f1 fd1 ["self"] (Rh K Qo)) (b1:Binds K fd1 ["self"] [])
  (G2:FnOk P w K mg base Yd 3 f2 fd2 ["hall","x","y"] (Sr K Vn)) (b2:Binds K fd2 ["hall","x","y"] []) (k2:PySem.W.keepIn K (.ref f2)=true) (m2:mg "is_corner"=some (.ref f2))
  (m3:Meth K CF "faces_at" f3) (G3:FnOk P w K mg base Yd 3 f3 fd3 ["self","edge"] (Zjz K Qx)) (b3:Binds K fd3 ["self","edge"] [])
  (G4:FnOk P w K mg base Yd 1 f4 fd4 ["track","pair"] (Rh K F_face_ahead)) (b4:Binds K fd4 ["track","pair"] []) (k4:PySem.W.keepIn K (.ref f4)=true) (m4:mg "face_ahead"=some (.ref f4)):
  FnOk P w K mg base Yd 4 f fd ["floor","across","upward","now"] (Zgf K Qx F_thing_at):=
 Zof F C7 rfl fun cdv A outer s H E hr=>
  (E2 ((V7 (Zy (Ye hr.units) (Qs 1 tc.oc tc.n4) (Zb 3) (Zx _)) (V0 (Zy (Ye hr.units) (Qs 2 tc.oc tc.n4) (Zb 3) (Zx _))))).pt
   (Hq (Kh (Yb (Xb G2 (hr.mono (by decide)) m2 k2 b2 (Za (Ml 0 oc na1) (Za (K1 1 tc.oc m1 G1 (hr.mono (by decide)) b1) (Za (K1 2 tc.oc m1 G1 (hr.mono (by decide)) b1) Ze))))) Qt X6))
  (E2 (Zy (Ye hr.units) (Qs 1 tc.oc tc.n4) (Zb 3) (Zx _))
   (Cv 1 oc m3 G3 (hr.mono (by decide)) b3 G4 (hr.mono (by decide)) m4 k4 b4 (Qd (Za Qt (Za (K1 1 tc.oc m1 G1 (hr.mono (by decide)) b1) (Za (Qs 2 tc.oc tc.n2) Ze)))))
  (E2 (Zy (Ye hr.units) (Qs 2 tc.oc tc.n4) (Zb 3) (Zx _))
   (Cv 2 oc m3 G3 (hr.mono (by decide)) b3 G4 (hr.mono (by decide)) m4 k4 b4 (Qd (Za Qt (Za (Qs 1 tc.oc tc.n2) (Za (K1 2 tc.oc m1 G1 (hr.mono (by decide)) b1) Ze)))))
  (Hq X6))))
end
abbrev Zgl:=List (List Yo×D)
def Pw (a a1 a2:Addr)(g:D)(q:Zgl)(pt st mo wt:D)(r1 r2:Qw)(tn:List D)(t8 t9 t10 t11:Option S):Zf:=
 [some (.fl a g q),some (.im pt),some (.im st),some (.im mo),some (.im wt),some (.ob a1 "Track" r1),some (.ob a2 "Track" r2),some (.ow tn),t8,t9,t10,t11]
noncomputable def Fd:Zf->M D:=S8 F_person_ahead (V1 0 (V1 5 (V1 6 (Ni (Zd 4) Mg))))
noncomputable def Zkb:Zf->M D:=Jx Zc5 (Zc (Q4 5 "Track" "due") (Zc (Q4 6 "Track" "due") (Zc (Zd 4) Zj)))
noncomputable def Ht:Zf->M D:=Sx 7 (Zv X0 (Zc (Zd 10) (Zc (Zn Jw (Zd 9) (Zd 4)) (Zc (Zn T7 (Jx Vz (Zc (Zd 7) Zj)) (Zd 3)) Zj))))
noncomputable def Vo:Zf->M D:=Qn (Zc (Xj 5 "Track" "place_at" Yf (Zc (Zd 9) Zj)) (Zc (Xj 6 "Track" "place_at" Yf (Zc (Zd 9) Zj)) Zj))
noncomputable def Zgm:Zf->M Bool:=DL.tB (Zn Jw (Zd 10) ↑"m")
noncomputable def Tq (a a1 a2:Addr)(g:D)(q:Zgl)(pt st mo wt:D):Nat->Qw->Qw->List D->M D
 |0,_,_,_=>.bad
 |n+1,r1,r2,tn=>
  (Fd (Pw a a1 a2 g q pt st mo wt r1 r2 tn none none none none)).bind fun p=>if p.isN=true then
   (Zkb (Pw a a1 a2 g q pt st mo wt r1 r2 tn none none none none)).bind fun now=>
   (F_thing_at [.fl a g q,.ob a1 "Track" r1,.ob a2 "Track" r2,.im now]).bind fun th=>
   (Ht (Pw a a1 a2 g q pt st mo wt r1 r2 tn none (some (.im now)) (some (.im th)) none)).bind fun wd=>if wd.isN=true then
    (Zgm (Pw a a1 a2 g q pt st mo wt r1 r2 tn none none (some (.im th)) none)).bind fun b=>
    (if b=true then(Vo (Pw a a1 a2 g q pt st mo wt r1 r2 tn none (some (.im now)) none none)).bind fun pl=>if few tn=true then .ok (tn++[pl]) else .bad else .ok tn).bind fun tn'=>
    (match F_pass_line r1 [now,th],F_pass_line r2 [now,th] with
    |some r1',some r2'=>Tq a a1 a2 g q pt st mo wt n r1' r2' tn'
    |_,_=>.bad)
   else(Vo (Pw a a1 a2 g q pt st mo wt r1 r2 tn none (some (.im now)) none none)).bind fun pl=>.ok (.tup [wd,pl,.lst tn])
  else .ok (.tup [.str (Str.ofString "person"),p,.lst tn])
noncomputable def fW (a a1 a2:Addr)(g:D)(q:Zgl)(pt st mo:D):M D:=
 (Zv Yn (Zc (Zd 0) (Zc (Zd 1) Zj)) [some (.im pt),some (.im st)]).bind fun wt=>
 (Zc 0[0]! (Zc 1[0]! (Zc (Zd 2) Zj)) [some (.im pt),some (.im st),some (.im wt)]).bind fun l1=>
 (Zc 0[1]! (Zc 1[1]! (Zc (Zd 2) Zj)) [some (.im pt),some (.im st),some (.im wt)]).bind fun l2=>
 match Jr [] l1,Jr [] l2 with
 |some r1,some r2=>Tq a a1 a2 g q pt st mo wt 3000 r1 r2 []
 |_,_=>.bad
def Zne (K:PySem.W.Frag)(F:Addr->Addr->Addr->D->Zgl->D->D->D->M D):Sp:=fun vs H Q _=>∃Hf a g q k pt st mo d rest m,vs=.ref a::rest/\Same Hf H/\FlK K Hf a g q k/\Hf k=none/\CaAt K (Ug Qx g) m Hf H k/\m+3000<=16000000/\Reps K Hf [pt,st,mo] rest/\(∀a1 a2,F a a1 a2 g q pt st mo=.ok d) /\
 ∀v' Hf' H',GrM k Hf H Hf' H'->CaAt K (Ug Qx g) (m+3000) Hf' H' k->Rep K Hf' d v'->Q v' H'
def Zgn:Stmt->List Stmt
 |.While _ b _ _=>b
 |_=>[]
abbrev wA (i:Nat):Stmt:=(Y5 Qy).getD i (.Pass ⟨0,0,0,0⟩)
abbrev wB (i:Nat):Stmt:=(Zgn (wA 4)).getD i (.Pass ⟨0,0,0,0⟩)
def Nq {i:Nat}{f:Zf->M O}{sd:Zf}{p:D}(h:sd[i]?=some (some (.im p))):Jf (DL.tB (Zn Ks (Zd i) (eC .non))) f Q8 sd=if p.isN=true then .ok (.nx sd) else f sd:=by
 have e:DL.tB (Zn Ks (Zd i) (eC .non)) sd=.ok (!p.isN):=by
  unfold DL.tB Zn Zd eC
  rw[h]
  cases p<;>rfl
 unfold Jf
 rw[e]
 cases p.isN<;>rfl
def Tr {f:Zf->M D}{g:Zf->M (List D)}{sd:Zf}{d:D}{l:List D}(h1:f sd=.ok d)(h2:g sd=.ok l):Zc f g sd=.ok (d::l):=by
 unfold Zc
 rw[h1]
 show M.bind (g sd) _=_
 rw[h2]
 rfl
def Pl (t:Option S):Prop:=∀s,t=some s->∃d,s=.im d
def Y8:Pl none:=fun _ h=>by cases h
def Q9 {d:D}:Pl (some (.im d)):=fun _ h=>by cases h;exact⟨d,rfl⟩
def Px {a a1 a2:Addr}{g:D}{q:Zgl}{pt st mo wt:D}{r1 r2:Qw}{tn:List D}{t8 t9 t10 t11:Option S}(h8:Pl t8)(h9:Pl t9)(h10:Pl t10)(h11:Pl t11){i:Nat}{t:S}(h:(Pw a a1 a2 g q pt st mo wt r1 r2 tn t8 t9 t10 t11)[i]?=some (some t)):
  (i=0/\t=.fl a g q)\/(i=5/\t=.ob a1 "Track" r1)\/(i=6/\t=.ob a2 "Track" r2)\/t=.ow tn\/∃d,t=.im d:=by
 match i,h with
 |0,h=>cases h;exact .inl ⟨rfl,rfl⟩
 |1,h=>cases h;exact .inr (.inr (.inr (.inr ⟨_,rfl⟩)))
 |2,h=>cases h;exact .inr (.inr (.inr (.inr ⟨_,rfl⟩)))
 |3,h=>cases h;exact .inr (.inr (.inr (.inr ⟨_,rfl⟩)))
 |4,h=>cases h;exact .inr (.inr (.inr (.inr ⟨_,rfl⟩)))
 |5,h=>cases h;exact .inr (.inl ⟨rfl,rfl⟩)
 |6,h=>cases h;exact .inr (.inr (.inl ⟨rfl,rfl⟩))
 |7,h=>cases h;exact .inr (.inr (.inr (.inl rfl)))
 |8,h=>exact .inr (.inr (.inr (.inr (h8 t (Option.some.inj h)))))
 |9,h=>exact .inr (.inr (.inr (.inr (h9 t (Option.some.inj h)))))
 |10,h=>exact .inr (.inr (.inr (.inr (h10 t (Option.some.inj h)))))
 |11,h=>exact .inr (.inr (.inr (.inr (h11 t (Option.some.inj h)))))
 |i+12,h=>cases h
section
variable {a a1 a2:Addr}{g:D}{q:Zgl}{pt st mo wt:D}{r1 r2:Qw}{tn:List D}{t8 t9 t10 t11:Option S}
def B5 (h8:Pl t8)(h9:Pl t9)(h10:Pl t10)(h11:Pl t11)(i:Nat)(t:S)(h:(Pw a a1 a2 g q pt st mo wt r1 r2 tn t8 t9 t10 t11)[i]?=some (some t))(o:t.own=true):∃ds,t=.ow ds:=by
 rcases Px h8 h9 h10 h11 h with⟨_,rfl⟩|⟨_,rfl⟩|⟨_,rfl⟩|rfl|⟨d,rfl⟩
 ·cases o
 ·cases o
 ·cases o
 ·exact⟨_,rfl⟩
 ·cases o
def Zmj (h8:Pl t8)(h9:Pl t9)(h10:Pl t10)(h11:Pl t11)(n1:a≠a1)(n2:a2≠a1)(i:Nat)(t:S)(hi:i≠5)(h:(Pw a a1 a2 g q pt st mo wt r1 r2 tn t8 t9 t10 t11)[i]?=some (some t)):t.adr≠some a1/\∀z,t≠.xc z:=by
 rcases Px h8 h9 h10 h11 h with⟨_,rfl⟩|⟨e,rfl⟩|⟨_,rfl⟩|rfl|⟨d,rfl⟩
 ·exact⟨fun z=>n1 (Option.some.inj z),fun _ z=>by cases z⟩
 ·exact absurd e hi
 ·exact⟨fun z=>n2 (Option.some.inj z),fun _ z=>by cases z⟩
 ·exact⟨(fun z=>by cases z),(fun _ z=>by cases z)⟩
 ·exact⟨(fun z=>by cases z),(fun _ z=>by cases z)⟩
def Zmk (h8:Pl t8)(h9:Pl t9)(h10:Pl t10)(h11:Pl t11)(n1:a≠a2)(n2:a1≠a2)(i:Nat)(t:S)(hi:i≠6)(h:(Pw a a1 a2 g q pt st mo wt r1 r2 tn t8 t9 t10 t11)[i]?=some (some t)):t.adr≠some a2/\∀z,t≠.xc z:=by
 rcases Px h8 h9 h10 h11 h with⟨_,rfl⟩|⟨_,rfl⟩|⟨e,rfl⟩|rfl|⟨d,rfl⟩
 ·exact⟨fun z=>n1 (Option.some.inj z),fun _ z=>by cases z⟩
 ·exact⟨fun z=>n2 (Option.some.inj z),fun _ z=>by cases z⟩
 ·exact absurd e hi
 ·exact⟨(fun z=>by cases z),(fun _ z=>by cases z)⟩
 ·exact⟨(fun z=>by cases z),(fun _ z=>by cases z)⟩
end
def WI (K:PySem.W.Frag)(H Hf:Hp)(a a1 a2 k:Addr)(g:D)(q:Zgl)(pt st mo wt d:D)(m0 n:Nat)(σ':L2.St)(H':Hp):Prop:=
 ∃Hf' r1 r2 tn t8 t9 t10 t11 m,Same Hf Hf'/\SR K (Gj H k) (fun b=>Lv (Gj H k) b/\Hf b=none) Hf' (Pw a a1 a2 g q pt st mo wt r1 r2 tn t8 t9 t10 t11) σ' H'/\Hf' k=none/\CaAt K (Ug Qx g) m Hf' H' k/\m+n<=m0+3000/\Pl t8/\Pl t9/\Pl t10/\Pl t11/\Tq a a1 a2 g q pt st mo wt n r1 r2 tn=.ok d
section
variable {P:Program}{w:World}{K:PySem.W.Frag}{mg:Str->Option Value}{base:Heap}
abbrev Xf:List Str:=["floor","point","step","most","whole_time","across","upward","turns","person","now","thing","word"]
def sc_walk_on:FnScope Xf ["floor","point","step","most"] (Zi Qy):=⟨rfl,rfl,rfl,by decide +kernel,rfl,by decide +kernel,by decide +kernel⟩
def Fe {f:Addr}{fd:FuncData}{C CF:Addr} (F:Fun K "walk_on" "walk_on" Qy f fd) (tc:TkC K C) (oc:ObC K "Floor" CF) {f1 f2 f3 f4 f5 f6 f7:Addr}{fd1 fd2 fd3 fd4 fd5 fd6 fd7:FuncData}
  (G1:FnOk P w K mg base Yd 1 f1 fd1 ["point","step"] (Sr K Yn)) (b1:Binds K fd1 ["point","step"] []) (k1:PySem.W.keepIn K (.ref f1)=true) (m1:mg "whole_time_of"=some (.ref f1))
  (Mk2:Mk K C f2) (G2:FnOk P w K mg base Yd 2 f2 fd2 ["self","begin","part","whole_time"] (Rv K C Jr)) (b2:Binds K fd2 ["self","begin","part","whole_time"] []) (m2:mg "Track"=some (.ref C))
  (G3:FnOk P w K mg base Yd 5 f3 fd3 ["floor","across","upward","whole_time"] (Rh K F_person_ahead)) (b3:Binds K fd3 ["floor","across","upward","whole_time"] []) (k3:PySem.W.keepIn K (.ref f3)=true) (m3:mg "person_ahead"=some (.ref f3))
  (G4:FnOk P w K mg base Yd 4 f4 fd4 ["floor","across","upward","now"] (Zgf K Qx F_thing_at)) (b4:Binds K fd4 ["floor","across","upward","now"] []) (k4:PySem.W.keepIn K (.ref f4)=true) (m4:mg "thing_at"=some (.ref f4))
  (G5:FnOk P w K mg base Yd 1 f5 fd5 ["thing","is_over","may_turn"] (Sr K X0)) (b5:Binds K fd5 ["thing","is_over","may_turn"] []) (k5:PySem.W.keepIn K (.ref f5)=true) (m5:mg "how_it_ends"=some (.ref f5))
  (m6:Meth K C "place_at" f6) (G6:FnOk P w K mg base Yd 3 f6 fd6 ["self","time"] (Rh K Yf)) (b6:Binds K fd6 ["self","time"] [])
  (G7:FnOk P w K mg base Yd 2 f7 fd7 ["track","now","thing"] (Rv K C F_pass_line)) (b7:Binds K fd7 ["track","now","thing"] []) (k7:PySem.W.keepIn K (.ref f7)=true) (m7:mg "pass_line"=some (.ref f7))
  (z_min:mg "min"=none) (z_len:mg "len"=none):
  FnOk P w K mg base Yd 6 f fd ["floor","point","step","most"] (Zne K fW):=by
 refine F.ok sc_walk_on (fun vs H Q E h=>?_) (fun cdv A outer s H vs Q E hr h=>?_)
 ·obtain⟨Hf,a,g,q,k,pt,st,mo,d,rest,m,rfl,_,_,_,_,_,rs,_⟩:=h
  have:=rs.length
  rw[List.length_cons,<-this]
  rfl
 ·obtain⟨Hf,a,g,q,k,pt,st,mo,d,rest,m0,rfl,e,fl,hk,ck,hm0,rs,hF,kk⟩:=h
  obtain⟨tT,pT,qT⟩:Lz (X5 Yd P w K mg base Xf "walk_on" (Zi Qy) f cdv A outer s H E).nox E0 _ (DL.tB (eC (.bl true))):=Yb Gu
  obtain⟨t1,p1,q1⟩:N8 (X5 Yd P w K mg base Xf "walk_on" (Zi Qy) f cdv A outer s H E).nox E0 (wA 0) _:=Zq 4 sc_walk_on.nd (Xb G1 (hr.mono (by decide)) m1 k1 b1 (Za (Zb 1) (Za (Zb 2) Ze)))
  obtain⟨t2,p2,q2⟩:T3 (X5 Yd P w K mg base Xf "walk_on" (Zi Qy) f cdv A outer s H E).nox E0 _ _:=Za (Zz (Zb 1)) (Za (Zz (Zb 2)) (Za (Zb 4) Ze))
  obtain⟨t3,p3,q3⟩:T3 (X5 Yd P w K mg base Xf "walk_on" (Zi Qy) f cdv A outer s H E).nox E0 _ _:=Za (Zz (Zb 1)) (Za (Zz (Zb 2)) (Za (Zb 4) Ze))
  obtain⟨t4,p4,q4⟩:N8 (X5 Yd P w K mg base Xf "walk_on" (Zi Qy) f cdv A outer s H E).nox E0 (wA 3) _:=Jl 7 sc_walk_on.nd (Kq Ze)
  obtain⟨t5,p5,q5⟩:N8 (X5 Yd P w K mg base Xf "walk_on" (Zi Qy) f cdv A outer s H E).nox E0 (wB 0) (Z8 8 Fd):=Zq 8 sc_walk_on.nd (Cq G3 (hr.mono (by decide)) m3 k3 b3 (Kt 0 (Kt 5 (Kt 6 (Ws (Zb 4) R9)))))
  obtain⟨t6,p6,q6⟩:N8 (X5 Yd P w K mg base Xf "walk_on" (Zi Qy) f cdv A outer s H E).nox E0 (wB 1) _:=Qk (Zy Ph (Zb 8) X6 (Zx _)) (G9 7 (Zl (Zt (Qd (Za Qt (Za (Zb 8) (Za (Zb 7) Ze))))))) Qe
  obtain⟨t7,p7,q7⟩:N8 (X5 Yd P w K mg base Xf "walk_on" (Zi Qy) f cdv A outer s H E).nox E0 (wB 2) (Z8 9 Zkb):=Zq 9 sc_walk_on.nd (Ql (Zge rfl) (by rfl) z_min (by rfl) (Za (Qs 5 tc.oc tc.n4) (Za (Qs 6 tc.oc tc.n4) (Za (Zb 4) Ze))))
  obtain⟨t8,p8,q8⟩:Zhu (X5 Yd P w K mg base Xf "walk_on" (Zi Qy) f cdv A outer s H E).nox E0 _ _:=Kt 0 (Kt 5 (Kt 6 (Ws (Zb 9) R9)))
  obtain⟨t9,p9,q9⟩:N8 (X5 Yd P w K mg base Xf "walk_on" (Zi Qy) f cdv A outer s H E).nox E0 (wB 4) (Z8 11 Ht):=Zq 11 sc_walk_on.nd (F5 7 (Xb G5 (hr.mono (by decide)) m5 k5 b5 (Za (Zb 10) (Za (X7 (Ye hr.units) (Zb 9) (Zb 4) (Zx _)) (Za (X7 Gv (Ql U5 (by rfl) z_len (by rfl) (Za (Zb 7) Ze)) (Zb 3) (Zx _)) Ze)))))
  obtain⟨t10,p10,q10⟩:N8 (X5 Yd P w K mg base Xf "walk_on" (Zi Qy) f cdv A outer s H E).nox E0 (wB 5) (Jf _ (Bh 7 (Qv (Qn (Zc (Zd 11) (Zc Vo (Zc (Zd 7) Zj)))))) Q8):=Qk (Zy Ph (Zb 11) X6 (Zx _)) (G9 7 (Zl (Zt (Qd (Za (Zb 11) (Za (Qd (Za (Wc 5 tc.oc m6 G6 (hr.mono (by decide)) b6 (Za (Zb 9) Ze)) (Za (Wc 6 tc.oc m6 G6 (hr.mono (by decide)) b6 (Za (Zb 9) Ze)) Ze))) (Za (Zb 7) Ze))))))) Qe
  obtain⟨t11,p11,q11⟩:N8 (X5 Yd P w K mg base Xf "walk_on" (Zi Qy) f cdv A outer s H E).nox E0 (wB 6) (Jf Zgm (K8 7 Vo) Q8):=Qk (Zy (Ye hr.units) (Zb 10) Qt (Zx _)) (Zl (Kr 7 (Qd (Za (Wc 5 tc.oc m6 G6 (hr.mono (by decide)) b6 (Za (Zb 9) Ze)) (Za (Wc 6 tc.oc m6 G6 (hr.mono (by decide)) b6 (Za (Zb 9) Ze)) Ze))))) Qe
  refine⟨_,Qj p1 (Qj (Vr sc_walk_on.nd (i:=5) rfl (.inl rfl) (R3 (dvs:=[]) (E:=E0) Mk2 G2 (hr.mono (by decide)) (by rfl) m2 b2 .nil Jh p2) rfl (.inl rfl))
   (Qj (Vr sc_walk_on.nd (i:=6) rfl (.inl rfl) (R3 (dvs:=[]) (E:=E0) Mk2 G2 (hr.mono (by decide)) (by rfl) m2 b2 .nil Jh p3) rfl (.inl rfl))
   (Qj p4 (X1 (Av PassesOwn.never pT
    (Qj p5 (Qj p6 (Qj p7
    (Qj (Vr sc_walk_on.nd (i:=10) rfl (.inl rfl) (Kd (dvs:=[]) (E:=E0) G4 (hr.mono (by decide)) (by rfl) m4 k4 b4 .nil Jh p8) rfl (.inl rfl))
    (Qj p9 (Qj p10 (Qj p11
    (Qj (V6 (Kd (dvs:=[]) (E:=E0) G7 (hr.mono (by decide)) (by rfl) m7 k7 b7 .nil Jh (Qh (Z9 (i:=5) rfl (.inl rfl) (by decide) (by decide)) (Qh (Z9 (i:=9) rfl (.inl rfl) (by decide) (by decide)) (Qh (Z9 (i:=10) rfl (.inl rfl) (by decide) (by decide)) Xa rfl) rfl) rfl)) rfl)
    (X1 (V6 (Kd (dvs:=[]) (E:=E0) G7 (hr.mono (by decide)) (by rfl) m7 k7 b7 .nil Jh (Qh (Z9 (i:=6) rfl (.inl rfl) (by decide) (by decide)) (Qh (Z9 (i:=9) rfl (.inl rfl) (by decide) (by decide)) (Qh (Z9 (i:=10) rfl (.inl rfl) (by decide) (by decide)) Xa rfl) rfl) rfl)) rfl))))))))))))))),?_⟩
  have hF0:=hF 0 0
  unfold fW at hF0
  obtain⟨wt,ew,hF0⟩:=bind_ok hF0
  obtain⟨l1,el1,hF0⟩:=bind_ok hF0
  obtain⟨l2,el2,hF0⟩:=bind_ok hF0
  split at hF0
  case h_2=>cases hF0
  rename_i r1 r2 er1 er2
  have hL:∀a1 a2,Tq a a1 a2 g q pt st mo wt 3000 r1 r2 []=.ok d:=fun a1 a2=>by
   have h:=hF a1 a2
   unfold fW at h
   rw[ew] at h
   simp only[M.bind] at h
   rw[el1] at h
   simp only[M.bind] at h
   rw[el2] at h
   simp only[M.bind] at h
   rw[er1,er2] at h
   exact h
  clear hF0 hF
  have hlen:=rs.length
  have sr0:=Wt (K:=K) (N:=Xf) (ss:=[.fl a g q,.im pt,.im st,.im mo]) (vs:=.ref a::rest) (m:=8) e (.cons ⟨rfl,fl.fl⟩ (Bm rs)) rfl
  refine q1 _ _ _ _ _ _ _ sr0 (Vu (Sb ew) fun σ1 Hf1 H1 s1 sr1=>?_)
  refine Zda (i:=5) q2 sr1 el1 rfl er1 tc.oc.at_ fun a1 σ2 Hf2 H2 s2 n1 sr2=>?_
  refine Zda (i:=6) q3 sr2 el2 rfl er2 tc.oc.at_ fun a2 σ3 Hf3 H3 s3 n2 sr3=>?_
  refine q4 _ _ _ _ _ _ _ sr3 (Vu (show _=M.ok (O.nx _) from rfl) fun σ4 Hf4 H4 s4 sr4=>?_)
  have na1:H a1=none:=none_of sr1.all n1
  have na2:H a2=none:=none_of sr2.all n2
  have fa1:Hf a1=none:=none_of e na1
  have fa2:Hf a2=none:=none_of e na2
  have n12:a1≠a2:=fun z=>by
   obtain⟨v,y1,C'',dx'',gs'',rfl,y2,y3,y4⟩:=sr2.imS 5 (.ob a1 "Track" r1) rfl rfl
   rw[z] at y3
   rw[sr2.sub _ _ y3] at n2
   cases n2
  obtain⟨x0,x1,x2,x3,x4,x5,x6,x7⟩:=id fl
  have nA1:a≠a1:=fun z=>by rw[z,fa1] at x6;cases x6
  have nA2:a≠a2:=fun z=>by rw[z,fa2] at x6;cases x6
  have lk:Lv H k:=ck.lv
  have w0:WI K H Hf a a1 a2 k g q pt st mo wt d m0 3000 σ4 H4:=⟨Hf4,r1,r2,[],none,none,none,none,m0,s1.trans (s2.trans (s3.trans s4)),sr4.less (Va H k) fun b hb=>⟨⟨(Va H k).lv hb.1,hb.2⟩,hb.1⟩,sr4.ban k ⟨lk,hk⟩,
   ck.mono (s1.trans (s2.trans (s3.trans s4))) (fun o z=>sr4.all _ _ z),Nat.le_refl _,Y8,Y8,Y8,Y8,hL a1 a2⟩
  refine⟨WI K H Hf a a1 a2 k g q pt st mo wt d m0,⟨_,w0⟩,fun n σ5 H5 hW=>?_⟩
  clear w0 sr0 sr1 sr2 sr3 sr4 s1 s2 s3 s4 hL er1 er2 n1 n2
  obtain⟨Hf5,r1,r2,tn,t8,t9,t10,t11,m,s5,sr5,hk5,ca5,hm,h8,h9,h10,h11,hl⟩:=hW
  cases n with
  |zero=>cases hl
  |succ n=>
  refine qT _ _ _ _ _ _ _ sr5 ?_
  show Po K E0 rQ Hf5 H5 (M.ok true) _
  intro v Hf6 H6 g6 rv
  have ev:true=v:=rv
  subst ev
  rw[if_pos rfl]
  refine⟨WI K H Hf a a1 a2 k g q pt st mo wt d m0 n,fun σ' H' w=>⟨n,Nat.lt_succ_self n,w⟩,?_⟩
  have sr6:=sr5.gr g6
  have hk6:Hf6 k=none:=g6.ban k ca5.lv hk5
  have ca6:=ca5.mono g6.fz (fun o z=>g6.all _ _ z)
  have s6:=s5.trans g6.fz
  clear sr5 ca5 hk5 s5 g6
  unfold Tq at hl
  obtain⟨p,ep,hl⟩:=bind_ok hl
  obtain⟨c6,y6,hc6,rc6,lc6,gc6⟩:=id ca6
  have srk:=sr6.keep hc6 ca6.lv hk6 (sr6.offD hc6 (B5 h8 h9 h10 h11))
  refine q5 _ _ _ _ _ _ _ srk (Vu (Sb ep) fun σ7 Hf7 H7 s7 sr7=>?_)
  have sr7:SR K _ _ Hf7 (Pw a a1 a2 g q pt st mo wt r1 r2 tn (some (.im p)) t9 t10 t11) σ7 H7:=sr7
  refine q6 _ _ _ _ _ _ _ sr7 ?_
  by_cases hp:p.isN=true
  case neg=>
   rw[if_neg hp] at hl
   cases hl
   refine Zc8 (d:=.tup [.str (Str.ofString "person"),p,.lst tn]) ?_ fun v Hf' H' s fin rv=>kk v Hf' H' (Zc9 (s6.trans (s7.trans s)) fin) ⟨c6,y6,fin.all _ _ Zo,rc6.mono (s7.trans s),by lia,gc6⟩ rv
   rw[Nq (p:=p) rfl,if_neg hp]
   rfl
  rw[if_pos hp] at hl
  obtain⟨now,en,hl⟩:=bind_ok hl
  obtain⟨th,eth,hl⟩:=bind_ok hl
  obtain⟨wd,ewd,hl⟩:=bind_ok hl
  refine Vu (by rw[Nq (p:=p) rfl,if_pos hp]) fun σ8 Hf8 H8 s8 sr8=>?_
  refine q7 _ _ _ _ _ _ _ sr8 (Vu (Sb en) fun σ9 Hf9 H9 s9 sr9=>?_)
  have sr9:SR K _ _ Hf9 (Pw a a1 a2 g q pt st mo wt r1 r2 tn (some (.im p)) (some (.im now)) t10 t11) σ9 H9:=sr9
  obtain⟨hc9,hk9,sr9⟩:=sr9.back (Vb H k) fun b hb=>hb.1
  have s69:=s6.trans (s7.trans (s8.trans s9))
  have ca9:CaAt K (Ug Qx g) m Hf9 H9 k:=⟨c6,y6,hc9,rc6.mono (s7.trans (s8.trans s9)),lc6,gc6⟩
  clear srk sr6 sr7 sr8 ca6 hk6 hc6 rc6
  refine q8 _ _ _ _ _ _ _ sr9 ?_
  show Po K E0 (Zmd K) Hf9 H9 (M.ok [.fl a g q,.ob a1 "Track" r1,.ob a2 "Track" r2,.im now]) _
  intro vs Hf10 H10 g10 rs10
  show Zgf K Qx F_thing_at (vs++[]) H10 _ E0
  rw[List.append_nil]
  have ca10:=ca9.mono g10.fz (fun o z=>g10.all _ _ z)
  have hk10:Hf10 k=none:=g10.ban k ca9.lv hk9
  have sr10:=sr9.gr g10
  have s10:=s69.trans g10.fz
  refine⟨Hf10,_,a,g,q,k,m,th,rfl,g10.sub,rs10,fl.mono s10,hk10,ca10,by rw[sizeLine_eq];lia,eth,fun v' Hf11 H11 gm ca11 rv'=>?_⟩
  have hk11:Hf11 k=none:=gm.ban k ca10.lv hk10
  obtain⟨c10,y10,hc10,_⟩:=id ca10
  have sr11:SR K _ _ Hf11 (Pw a a1 a2 g q pt st mo wt r1 r2 tn (some (.im p)) (some (.im now)) (some (.im th)) t11) _ H11:=(sr10.grM gm (Vb H k) (sr10.offD hc10 (B5 Q9 Q9 h10 h11))).set_im 10 rv'
  have s11:=s10.trans gm.fz
  clear sr9 sr10 ca9 ca10 hk9 hk10 s69 s10 rs10 gm hc9 g10 hc10 rv'
  obtain⟨c6,y6,hc6,rc6,lc6,gc6⟩:=id ca11
  have srk:=sr11.keep hc6 ca11.lv hk11 (sr11.offD hc6 (B5 Q9 Q9 Q9 h11))
  refine q9 _ _ _ _ _ _ _ srk (Vu (Sb ewd) fun σ12 Hf12 H12 s12 sr12=>?_)
  have sr12:SR K _ _ Hf12 (Pw a a1 a2 g q pt st mo wt r1 r2 tn (some (.im p)) (some (.im now)) (some (.im th)) (some (.im wd))) σ12 H12:=sr12
  refine q10 _ _ _ _ _ _ _ sr12 ?_
  by_cases hw:wd.isN=true
  case neg=>
   rw[if_neg hw] at hl
   obtain⟨pl,epl,hl⟩:=bind_ok hl
   cases hl
   refine Zc8 (d:=.tup [wd,pl,.lst tn]) ?_ fun v Hf' H' s fin rv=>kk v Hf' H' (Zc9 (s11.trans (s12.trans s)) fin) ⟨c6,y6,fin.all _ _ Zo,rc6.mono (s12.trans s),by lia,gc6⟩ rv
   rw[Nq (p:=wd) rfl,if_neg hw]
   have e3:=Tr (f:=Zd 11) (g:=Zc Vo (Zc (Zd 7) Zj)) (sd:=frz 7 (Pw a a1 a2 g q pt st mo wt r1 r2 tn (some (.im p)) (some (.im now)) (some (.im th)) (some (.im wd)))) (d:=wd) rfl (Tr (d:=pl) epl (Tr (d:=.lst tn) (l:=[]) rfl rfl))
   unfold Bh Qv Qn
   rw[e3]
   rfl
  rw[if_pos hw] at hl
  obtain⟨b,eb,hl⟩:=bind_ok hl
  obtain⟨tn',etn,hl⟩:=bind_ok hl
  split at hl
  case h_2=>cases hl
  rename_i r1' r2' er1 er2
  refine Vu (by rw[Nq (p:=wd) rfl,if_pos hw]) fun σ13 Hf13 H13 s13 sr13=>?_
  refine q11 _ _ _ _ _ _ _ sr13 (Vu (sd':=Pw a a1 a2 g q pt st mo wt r1 r2 tn' (some (.im p)) (some (.im now)) (some (.im th)) (some (.im wd))) ?_ fun σ14 Hf14 H14 s14 sr14=>?_)
  ·have eb':Zgm (Pw a a1 a2 g q pt st mo wt r1 r2 tn (some (.im p)) (some (.im now)) (some (.im th)) (some (.im wd)))=.ok b:=eb
   unfold Jf
   rw[eb']
   cases b with
   |false=>cases etn;rfl
   |true=>
    rw[if_pos rfl] at etn
    obtain⟨pl,epl,etn⟩:=bind_ok etn
    split at etn
    ·rename_i hfew
     cases etn
     have e2:Vo (Pw a a1 a2 g q pt st mo wt r1 r2 tn (some (.im p)) (some (.im now)) (some (.im th)) (some (.im wd)))=.ok pl:=epl
     show(Vo (Pw a a1 a2 g q pt st mo wt r1 r2 tn (some (.im p)) (some (.im now)) (some (.im th)) (some (.im wd)))).bind (fun d=>if few tn=true then _ else _)=_
     rw[e2]
     show(if few tn=true then _ else _)=_
     rw[if_pos hfew]
     rfl
    ·cases etn
  obtain⟨hc14,hk14,sr14⟩:=sr14.back (Vb H k) fun b hb=>hb.1
  have s6_14:=s11.trans (s12.trans (s13.trans s14))
  have ca14:CaAt K (Ug Qx g) (m+1) Hf14 H14 k:=⟨c6,y6,hc14,rc6.mono (s12.trans (s13.trans s14)),lc6,gc6⟩
  clear srk sr11 sr12 sr13 ca11 hk11 hc6 rc6
  refine Zhw (i:=5) (i1:=9) (i2:=10) sr14 rfl (Zmj Q9 Q9 Q9 Q9 nA1 n12.symm) tc.oc.at_ (none_of (Va H k) na1) er1 (by decide) (by decide) rfl rfl hk14 ca14 fun Hf15 H15 s15 sr15 hk15 ca15=>?_
  have sr15:SR K _ _ Hf15 (Pw a a1 a2 g q pt st mo wt r1' r2 tn' (some (.im p)) (some (.im now)) (some (.im th)) (some (.im wd))) _ H15:=sr15
  refine Zhw (i:=6) (i1:=9) (i2:=10) sr15 rfl (Zmk Q9 Q9 Q9 Q9 nA2 n12) tc.oc.at_ (none_of (Va H k) na2) er2 (by decide) (by decide) rfl rfl hk15 ca15 fun Hf16 H16 s16 sr16 hk16 ca16=>?_
  exact⟨Hf16,r1',r2',tn',_,_,_,_,m+1,s16 Hf (s15 Hf s6_14 fa1) fa2,sr16,hk16,ca16,by lia,Q9,Q9,Q9,Q9,hl⟩
end
noncomputable def Znf:Zf->M D:=Qn (Zc (Zv Y3 (Zc 3[0]! Zj)) (Zc (Zv Y3 (Zc 3[1]! Zj)) Zj))
noncomputable def Hu (p:D):Option (List Yo):=match Znf [none,none,none,some (.im p),none] with
 |.ok (.tup ds)=>K9 ds
 |_=>none
noncomputable def Fg:Nn->List D->Option Nn
 |acc,[]=>some acc
 |acc,p::r=>match Hu p with
  |some ks=>Fg (Uy ks p acc) r
  |none=>none
theorem Nr (f:Str)(v:V):∀fs:List (Str×V),(Yi f v fs).length<=fs.length+1
 |[]=>Nat.le_refl _
 |(g,x)::r=>by
  unfold Yi
  split
  ·simp
  ·have:=Nr f v r
   simp only[List.length_cons]
   lia
section
variable {P:Program}{w:World}{K:PySem.W.Frag}{mg:Str->Option Value}{base:Heap}
abbrev Zng:List Str:=["self","hall","people","person","square"]
def sc_Floor_init:FnScope Zng ["self","hall","people"] (Zi Kx):=⟨rfl,rfl,rfl,by decide +kernel,rfl,by decide +kernel,by decide +kernel⟩
def Zk3 (hall:D)(ppl:List D)(t3 t4:Option S):Zf:=[none,some (.im hall),some (.im (.lst ppl)),t3,t4]
def Py {hall:D}{ppl:List D}{t3 t4:Option S}(h3:Pl t3)(h4:Pl t4){σ:L2.St}{b:Addr}:Zk2 (Zk3 hall ppl t3 t4) σ b:=by
 intro i t h o
 have:∃d,t=.im d:=by
  match i,h with
  |0,h=>cases h
  |1,h=>cases h;exact⟨_,rfl⟩
  |2,h=>cases h;exact⟨_,rfl⟩
  |3,h=>exact h3 t (Option.some.inj h)
  |4,h=>exact h4 t (Option.some.inj h)
  |i+5,h=>cases h
 obtain⟨d,rfl⟩:=this
 cases o
def FI (K:PySem.W.Frag)(CF dx x k d:Addr)(gs:List (Str×V))(H Hf:Hp)(hall:D)(ppl:List D)(q:Nn)(i m:Nat)(σ':L2.St)(H':Hp):Prop:=
 m=ppl.length-i/\i<=ppl.length/\∃Hf' t3 t4 ys acc,Same Hf Hf'/\SR K (Gj H x) (fun b=>Lv (Gj H x) b/\Hf b=none) Hf' (Zk3 hall ppl t3 t4) σ' H'/\Pl t3/\Pl t4/\σ'[0]?=some (some (.ref x))/\Hf' x=none/\H' x=some (.ins CF dx gs)/\H' k=some (.dT [])/\Hf' k=none /\
  H' d=some (.dT ys)/\Hf' d=none/\OwnL K (Gj H x) Hf' H' acc ys/\acc.length<=i/\(∀p∈acc,p.2.length<=i)/\Fg acc (ppl.drop i)=some q
def Lj {f:Addr}{fd:FuncData}{CF:Addr} (F:Fun K "__init__" "Floor.__init__" Kx f fd) (oc:ObC K "Floor" CF) (na1:NoAttr K CF "hall") (na2:NoAttr K CF "known_faces") (na3:NoAttr K CF "by_square") {f1:Addr}{fd1:FuncData}
  (G1:FnOk P w K mg base Yd 1 f1 fd1 ["place"] (Sr K Y3)) (b1:Binds K fd1 ["place"] []) (k1:PySem.W.keepIn K (.ref f1)=true) (m1:mg "square_of"=some (.ref f1)):
  FnOk P w K mg base Yd 2 f fd ["self","hall","people"] (Zj2 K CF (Fg [])):=by
 refine F.ok sc_Floor_init (fun vs H Q E h=>?_) (fun cdv A outer s H vs Q E hr h=>?_)
 ·obtain⟨Hf,x,dx,hall,ppl,q,vh,vp,rfl,_⟩:=h
  rfl
 ·obtain⟨Hf,x,dx,hall,ppl,q,vh,vp,rfl,e,hfx,hx,rh,rp,hlen,hq,kk⟩:=h
  obtain⟨tk,pk,qk⟩:Y0 (X5 Yd P w K mg base Zng "Floor.__init__" (Zi Kx) f cdv A outer s H E).nox E0 _ Znf:=Qd (Za (Xb G1 (hr.mono (by decide)) m1 k1 b1 (Za (Zz (Zb 3)) Ze)) (Za (Xb G1 (hr.mono (by decide)) m1 k1 b1 (Za (Zz (Zb 3)) Ze)) Ze))
  refine⟨_,Qj (M6 (Z9 (i:=0) rfl (.inl rfl) (by decide) (by decide)) (Z9 (i:=1) rfl (.inl rfl) (by decide) (by decide)) rfl)
   (Qj (M6 (Z9 (i:=0) rfl (.inl rfl) (by decide) (by decide)) A5 rfl)
   (Qj (M6 (Z9 (i:=0) rfl (.inl rfl) (by decide) (by decide)) A5 rfl)
   (X1 (M3 PassesOwn.never rfl (Zez (Z9 (i:=2) rfl (.inl rfl) (by decide) (by decide))) (R1 (i:=3) sc_Floor_init.nd rfl (.inl rfl) (.inl rfl))
    (Qj (Vr sc_Floor_init.nd (i:=4) rfl (.inl rfl) pk rfl (.inl rfl))
    (X1 (V6 (Zbs PySem.F.plainAttrs_list PySem.F.slot_list_append PySem.F.type_list_append Wp (Zdc (Zgk hr.units) (U2 (Z9 (i:=0) rfl (.inl rfl) (by decide) (by decide)) rfl) (Z9 (i:=4) rfl (.inl rfl) (by decide) (by decide)) (D8 Xa) ⟨rfl,rfl,rfl,rfl⟩) (Qh (Z9 (i:=3) rfl (.inl rfl) (by decide) (by decide)) Xa rfl)) rfl))))))),?_⟩
  obtain⟨ap,xs,rfl,hap,rxs⟩:=rep_lst.mp rp
  have st:=Mi (K:=K) (N:=Zng) (C:=CF) (Hf:=Hf) (H:=H) (r:=[]) (ds:=[hall,.lst ppl]) (a:=x) (vs:=[vh,.ref ap]) (m:=2) e hfx ⟨dx,[],hx,.nil⟩ (Reps.cons rh (Reps.cons rp Reps.nil)) rfl
  have sr0:SR K (Gj H x) (fun b=>Lv (Gj H x) b/\Hf b=none) Hf (Zk3 hall ppl none none) (Xu Zng [.ref x,vh,.ref ap]) H:=st.sr
  refine⟨vh,rfl,.ref x,rfl,x,CF,dx,[],rfl,hx,oc.cls,na1,by decide,?_⟩
  have sr1:=sr0.mut (b:=x) (o:=.ins CF dx (Yi "hall" vh [])) (Vb H x) hfx (Py Y8 Y8)
  intro k hk
  have xk:x≠k:=by rintro rfl;rw[Zo] at hk;cases hk
  have hk0:H k=none:=by rw[Zm xk.symm] at hk;exact hk
  refine⟨.ref x,rfl,x,CF,dx,_,rfl,(Zm xk).trans Zo,oc.cls,na2,by have:=Nr "hall" vh [];simp only[List.length_nil] at this;lia,?_⟩
  have sr2:=sr1.gr (Gr.new sr1.sub hk (.dT []))
  have sr3:=sr2.mut (b:=x) (o:=.ins CF dx (Yi "known_faces" (.ref k) (Yi "hall" vh []))) (Vb H x) hfx (Py Y8 Y8)
  intro d hd
  have xd:x≠d:=by rintro rfl;rw[Zo] at hd;cases hd
  have kd:k≠d:=by rintro rfl;rw[Zm xk.symm,Zo] at hd;cases hd
  have hd0:H d=none:=by rw[Zm xd.symm,Zm kd.symm,Zm xd.symm] at hd;exact hd
  refine⟨.ref x,rfl,x,CF,dx,_,rfl,(Zm xd).trans Zo,oc.cls,na3,by have:=Nr "hall" vh [];have:=Nr "known_faces" (.ref k) (Yi "hall" vh []);simp only[List.length_nil] at *;lia,?_⟩
  have sr4:=sr3.gr (Gr.new sr3.sub hd (.dT []))
  have sr5:=sr4.mut (b:=x) (o:=.ins CF dx (Yi "by_square" (.ref d) (Yi "known_faces" (.ref k) (Yi "hall" vh [])))) (Vb H x) hfx (Py Y8 Y8)
  have g1:(Yi "by_square" (.ref d) (Yi "known_faces" (.ref k) (Yi "hall" vh []))).lookup ("hall":Str)=some vh:=by
   rw[Qr,if_neg (by decide),Qr,if_neg (by decide),Qr,if_pos rfl]
  have g2:(Yi "by_square" (.ref d) (Yi "known_faces" (.ref k) (Yi "hall" vh []))).lookup ("by_square":Str)=some (.ref d):=by rw[Qr,if_pos rfl]
  have g3:(Yi "by_square" (.ref d) (Yi "known_faces" (.ref k) (Yi "hall" vh []))).lookup ("known_faces":Str)=some (.ref k):=by rw[Qr,if_neg (by decide),Qr,if_pos rfl]
  have g4:(Yi "by_square" (.ref d) (Yi "known_faces" (.ref k) (Yi "hall" vh []))).lookup ("people_at":Str)=none:=by
   rw[Qr,if_neg (by decide),Qr,if_neg (by decide),Qr,if_neg (by decide)];rfl
  have g5:(Yi "by_square" (.ref d) (Yi "known_faces" (.ref k) (Yi "hall" vh []))).lookup ("faces_at":Str)=none:=by
   rw[Qr,if_neg (by decide),Qr,if_neg (by decide),Qr,if_neg (by decide)];rfl
  generalize Yi "by_square" (.ref d) (Yi "known_faces" (.ref k) (Yi "hall" vh []))=gs at *
  refine⟨.ref ap,rfl,ap,rfl,⟨xs,sr5.sub.seq hap⟩,FI K CF dx x k d gs H Hf hall ppl q,⟨_,rfl,Nat.zero_le _,Hf,none,none,[],[],Same.refl _,sr5,Y8,Y8,rfl,hfx,Zo,?_,none_of e hk0,?_,none_of e hd0,⟨.nil,by simp⟩,Nat.le_refl _,(fun _ h=>by cases h),hq⟩,fun i m σ' H' hI=>?_⟩
  ·rw[Zm xk.symm,Zm kd,Zm xk.symm,Zo]
  ·rw[Zm xd.symm,Zo]
  clear sr0 sr1 sr2 sr3 sr4 sr5 st hk hd
  obtain⟨rfl,hi,Hf',t3,t4,ys,acc,s',sr,h3,h4,σ0,fx,Hx,Hk,fk,Hd,fdd,own,la,ll,hb⟩:=hI
  have sq:SqL K H' ap xs:=sr.sub.seq (s'.seq hap)
  have lx:=rxs.length
  by_cases hlt:i<ppl.length
  case neg=>
   have ei:i=ppl.length:=by lia
   left
   refine⟨⟨xs,sq,by lia⟩,?_⟩
   rw[ei,List.drop_length] at hb
   cases hb
   have nS:∀b,Lv H b->b≠x->¬(b=x\/b=d\/∃p∈ys,p.2=V.ref b):=fun b hb hx' z=>by
    rcases z with z|z|⟨p,z1,z2⟩
    ·exact hx' z
    ·rw[z] at hb;exact hb.nn hd0
    ·obtain⟨y,_,a',xs',e2,_,_,e5,_⟩:=Kw own.1 z1
     rw[z2] at e2
     cases e2
     rw[Jm hx'] at e5
     exact hb.nn e5
   refine kk (Zet Hf' H' fun b=>b=x\/b=d\/∃p∈ys,p.2=V.ref b) H' k (s'.trans Td) (Zgg sr.sub) (fun b u hb hu=>sr.all b u ((Jm hb).trans hu)) (fun b hl hf hne=>?_) ?_ ?_ Hk hk0
   ·obtain⟨o,o1,o2⟩:=id hl
    exact Cw (nS b hl hne) (sr.ban b ⟨⟨o,(Jm hne).trans o1,o2⟩,hf⟩)
   ·have sm:=s'.trans (Td (Hf:=Hf') (H:=H') (S:=fun b=>b=x\/b=d\/∃p∈ys,p.2=V.ref b))
    refine⟨CF,dx,gs,d,ys,oc.at_,E3 sr.sub (.inl rfl) Hx,⟨⟨vh,g1,rh.mono sm⟩,g2,g3,g4,g5⟩,E3 sr.sub (.inr (.inl rfl)) Hd,?_⟩
    have:∀{l:Nn}{l':List (List Yo×V)},Paired (OwnP K (Gj H x) Hf' H') l l'->(∀p∈l',p∈ys)->RepKV K (Zet Hf' H' fun b=>b=x\/b=d\/∃p∈ys,p.2=V.ref b) (qD l) l':=by
     intro l l' hl hm
     induction hl with
     |nil=>exact .nil
     | @cons y z r r' hp ht ih=>
      obtain⟨e1,a',xs',e2,e3,e4,e5,e6⟩:=hp
      refine .cons ⟨e1,?_⟩ (ih fun p hp=>hm p (List.mem_cons_of_mem _ hp))
      show Rep K _ (.lst y.2) z.2
      rw[e2]
      exact rep_lst.mpr ⟨a',xs',rfl,SqL.of (E3 sr.sub (.inr (.inr ⟨z,hm z (List.mem_cons_self ..),e2⟩)) e3),e6.mono Td⟩
    exact this own.1 fun _ h=>h
   ·refine Cw (fun z=>?_) fk
    rcases z with z|z|⟨p,z1,z2⟩
    ·exact xk z.symm
    ·exact kd z
    ·obtain⟨y,_,a',xs',e2,e3,_⟩:=Kw own.1 z1
     rw[z2] at e2
     cases e2
     rw[Hk] at e3
     cases e3
  right
  have hb':Fg acc (ppl[i]::ppl.drop (i+1))=some q:=by rw[<-List.drop_eq_getElem_cons hlt];exact hb
  unfold Fg at hb'
  split at hb'
  case h_2=>cases hb'
  rename_i ks eks
  unfold Hu at eks
  split at eks
  case h_2=>cases eks
  rename_i ds eds
  obtain⟨y,ey,ry⟩:=rxs.get (List.getElem?_eq_getElem hlt)
  refine⟨⟨xs,y,sq,ey⟩,FI K CF dx x k d gs H Hf hall ppl q (i+1) (ppl.length-(i+1)),fun σ' H' w=>⟨_,by lia,w⟩,fun v H'' hy=>?_⟩
  obtain⟨rfl,hy⟩:=hy
  have ev:=hy _ sq
  rw[ey] at ev
  cases ev
  have ry':=ry.mono s'
  have sr1:SR K _ _ Hf' (Zk3 hall ppl (some (.im ppl[i])) t4) _ H'':=sr.set_im 3 ry'
  refine qk _ _ _ _ _ _ _ sr1 ?_
  rw[show Znf (Zk3 hall ppl (some (.im ppl[i])) t4)=.ok (.tup ds) from eds]
  intro v4 Hf2 H2 g6 rv4
  have sr2:SR K _ _ Hf2 (Zk3 hall ppl (some (.im ppl[i])) (some (.im (.tup ds)))) _ H2:=(sr1.gr g6).set_im 4 rv4
  obtain⟨b,rfl,hb4⟩:=Bi eks g6.sub rv4
  have own2:=own.gr g6
  have hsz:=sizeLine_eq
  have lk:Lv H'' k:=⟨_,Hk,fun _ q=>by cases q⟩
  have ldd:Lv H'' d:=⟨_,Hd,fun _ q=>by cases q⟩
  have lys:=Paired.length own.1
  obtain⟨w3,sw3,rw3⟩:=sr2.im 3 ppl[i] rfl
  obtain⟨w4,sw4,rw4⟩:=sr2.im 4 (.tup ds) rfl
  obtain⟨b',rfl,hb4⟩:=Bi eks sr2.sub rw4
  have σ0':(List.set (List.set σ' 3 (some y)) 4 (some (V.ref b)))[0]?=some (some (.ref x)):=by rw[List.getElem?_set_ne (by decide),List.getElem?_set_ne (by decide)];exact σ0
  refine⟨.ref x,σ0',x,CF,dx,gs,.ref d,rfl,g6.all _ _ Hx,oc.cls,na3,g2,d,rfl,.inr ⟨ys,.inl (g6.all _ _ Hd)⟩,_,sw4,?_⟩
  refine⟨Nat.zero_le _,fun pl hpl=>?_⟩
  have own3:=own2.gr (Gr.new sr2.sub hpl (.lst []))
  have sr3:=sr2.gr (Gr.new sr2.sub hpl (.lst []))
  have nx:x≠pl:=fun z=>by rw[<-z,g6.all _ _ Hx] at hpl;cases hpl
  have nk:k≠pl:=fun z=>by rw[<-z,g6.all _ _ Hk] at hpl;cases hpl
  have nd:d≠pl:=fun z=>by rw[<-z,g6.all _ _ Hd] at hpl;cases hpl
  have nb:b'≠pl:=fun z=>by rw[<-z,hb4] at hpl;cases hpl
  have Hx3:upd H2 pl (.lst []) x=some (.ins CF dx gs):=(Zm nx).trans (g6.all _ _ Hx)
  have Hk3:upd H2 pl (.lst []) k=some (.dT []):=(Zm nk).trans (g6.all _ _ Hk)
  have Hd3:upd H2 pl (.lst []) d=some (.dT ys):=(Zm nd).trans (g6.all _ _ Hd)
  have s2:=s'.trans g6.fz
  have fx2:Hf2 x=none:=g6.ban x (Ta Hx) fx
  have fk2:Hf2 k=none:=g6.ban k lk fk
  have fd2:Hf2 d=none:=g6.ban d ldd fdd
  refine⟨ys,ks,b',rfl,Hd3,(Zm nb).trans hb4,by lia,fun v ev=>?_,fun en=>?_⟩
  ·obtain⟨a',xs1,rfl,e3,e4,e5,⟨pp,g1',g2'⟩,fut⟩:=own3.there ev
   have l1:=ll pp g1'
   refine⟨.inl ⟨rfl,xs1,SqL.of e3⟩,w3,sw3,a',xs1,w3,rfl,rfl,e3,by lia,?_⟩
   have n1:x≠a':=fun z=>by rw[<-z,Hx3] at e3;cases e3
   have n2:k≠a':=fun z=>by rw[<-z,Hk3] at e3;cases e3
   have n3:d≠a':=fun z=>by rw[<-z,Hd3] at e3;cases e3
   exact⟨rfl,hlt,Hf2,_,_,ys,Uy ks ppl[i] acc,s2,sr3.mut e5 e4 (Py Q9 Q9),Q9,Q9,σ0',fx2,(Zm n1).trans Hx3,(Zm n2).trans Hk3,fk2,(Zm n3).trans Hd3,fd2,⟨fut _ _ rw3,own3.2⟩,by have:=Tc (ks:=ks) (p:=ppl[i]) (acc:=acc);lia,Pr ll,hb'⟩
  ·have epl:upd (upd H2 pl (.lst [])) d (.dT (Jz ys ks (.ref pl))) pl=some (.lst []):=(Zm nd.symm).trans Zo
   refine⟨.inl ⟨rfl,[],SqL.of epl⟩,w3,sw3,pl,[],w3,rfl,rfl,epl,by rw[sizeLine_eq];decide,?_⟩
   have h0:Gj H x pl=none:=none_of sr2.all hpl
   have hfp:Hf2 pl=none:=none_of sr2.sub hpl
   have eH:upd (upd (upd H2 pl (.lst [])) d (.dT (Jz ys ks (.ref pl)))) pl (.lst ([]++[w3]))=upd (upd H2 d (.dT (Jz ys ks (.ref pl)))) pl (.lst [w3]):=by
    funext c
    by_cases c1:c=pl
    ·subst c1;rw[Zo,Zo];rfl
    ·rw[Zm c1,Zm c1]
     by_cases c2:c=d
     ·subst c2;rw[Zo,Zo]
     ·rw[Zm c2,Zm c2,Zm c1]
   have sr4:=(sr3.mut (b:=d) (o:=.dT (Jz ys ks (.ref pl))) (none_of (Va H x) hd0) fd2 (Py Q9 Q9)).mut (b:=pl) (o:=.lst ([]++[w3])) h0 hfp (Py Q9 Q9)
   refine⟨rfl,hlt,Hf2,_,_,Jz ys ks (.ref pl),Uy ks ppl[i] acc,s2,sr4,Q9,Q9,σ0',fx2,?_,?_,fk2,?_,fd2,?_,by have:=Tc (ks:=ks) (p:=ppl[i]) (acc:=acc);lia,Pr ll,hb'⟩
   ·rw[Zm nx,Zm xd];exact Hx3
   ·rw[Zm nk,Zm kd];exact Hk3
   ·rw[Zm nd,Zo]
   ·rw[eH]
    exact own2.new en (g6.all _ _ Hd) hpl h0 hfp rw3
end
open Classical in
noncomputable def wD (hall:D)(q:Nn)(pt st mo:D):M D:=if h:∃d,∀a a1 a2,fW a a1 a2 hall (qD q) pt st mo=.ok d then .ok h.choose else .bad
def Zml {hall pt st mo d:D}{q:Nn}(h:wD hall q pt st mo=.ok d)(a a1 a2:Addr):fW a a1 a2 hall (qD q) pt st mo=.ok d:=by
 unfold wD at h
 split at h
 ·rename_i hh
  cases h
  exact hh.choose_spec a a1 a2
 ·cases h
def Zmm {hall pt st mo d:D}{q:Nn}(h:∀a a1 a2,fW a a1 a2 hall (qD q) pt st mo=.ok d):wD hall q pt st mo=.ok d:=by
 have hh:∃d,∀a a1 a2,fW a a1 a2 hall (qD q) pt st mo=.ok d:=⟨d,h⟩
 unfold wD
 rw[dif_pos hh,<-hh.choose_spec 0 0 0]
 exact h 0 0 0
def Zmn:Stmt->List Stmt
 |.For _ _ b _ _=>b
 |_=>[]
section
variable {K:PySem.W.Frag}
def Zdk {H Hf Hf1 H1 Hf' H':Hp}{sd:Zf}{σ:L2.St}{CF x dx k:Addr}{g:D}{kv:Zgl}{i:Nat}(sr:SR K H (fun b=>Lv H b/\Hf b=none) Hf1 sd σ H1)(im:∀(j:Nat) (t:S),sd[j]?=some (some t)->t.own=false)(hx:H1 x=none)(hdx:H1 dx=none)(hne:dx≠x)(s1:Same Hf1 Hf')(s2:Same Hf' H')(al:∀b u,b≠x->upd (upd H1 dx (.own x)) x (.ins CF dx []) b=some u->H' b=some u)(ba:∀b,Lv (upd (upd H1 dx (.own x)) x (.ins CF dx [])) b->Hf1 b=none->b≠x->Hf' b=none)(fl:FlK K Hf' x g kv k):
  SR K H (fun b=>Lv H b/\Hf b=none) Hf' (sd.set i (some (.fl x g kv))) (σ.set i (some (.ref x))) H':=by
 have sm:Same H1 (upd (upd H1 dx (.own x)) x (.ins CF dx [])):=(Qa hdx _).trans (Qa ((Zm hne.symm).trans hx) _)
 have ne:∀{b u},H b=some u->b≠x:=fun {b u} hb z=>by
  have:=sr.all _ _ hb
  rw[z,hx] at this
  cases this
 have r:SR K H (fun b=>Lv H b/\Hf b=none) Hf' sd σ H':=⟨s2,fun b u hb=>al b u (ne hb) (sm _ _ (sr.all _ _ hb)),fun b hb=>by
   obtain⟨o,ho,_⟩:=id hb.1
   exact ba b (sm.lv (sr.all.lv hb.1)) (sr.ban b hb) (ne ho),sr.bt,sr.len,fun j t e o=>by
   obtain⟨v,z1,z2⟩:=sr.imS j t e o
   exact⟨v,z1,z2.mono s1⟩,fun j t e o=>(by rw[im j t e] at o;cases o),fun j l t u p _ e o=>(by rw[im j t e] at o;cases o)⟩
 exact r.set_st (d:=.fl x g kv) i rfl fl.fl
end
open Classical in
noncomputable def F_walk:List D->M S
 |[hall,.lst ppl,pt,st,mo]=>(match Fg [] ppl with
  |some q=>if h:ppl.length<=1000000/\∃d,∀a a1 a2,fW a a1 a2 hall (qD q) pt st mo=.ok d then .ok (.im h.2.choose) else .bad
  |none=>.bad)
 |_=>.bad
def Zag {hall pt st mo d:D}{ppl:List D}{q:Nn}(hq:Fg [] ppl=some q)(hl:ppl.length<=1000000)(h:∀a a1 a2,fW a a1 a2 hall (qD q) pt st mo=.ok d):F_walk [hall,.lst ppl,pt,st,mo]=.ok (.im d):=by
 have hh:ppl.length<=1000000/\∃d,∀a a1 a2,fW a a1 a2 hall (qD q) pt st mo=.ok d:=⟨hl,d,h⟩
 simp only[F_walk,hq]
 rw[dif_pos hh]
 have:=hh.2.choose_spec 0 0 0
 rw[h 0 0 0] at this
 cases this
 rfl
def Mp {ds:List D}{s:S}(h:F_walk ds=.ok s):∃hall ppl pt st mo q d,ds=[hall,.lst ppl,pt,st,mo]/\Fg [] ppl=some q/\ppl.length<=1000000/\(∀a a1 a2,fW a a1 a2 hall (qD q) pt st mo=.ok d)/\s=.im d:=by
 unfold F_walk at h
 split at h
 ·rename_i hall ppl pt st mo
  split at h
  ·rename_i q hq
   split at h
   ·rename_i hh
    cases h
    exact⟨hall,ppl,pt,st,mo,q,_,rfl,hq,hh.1,hh.2.choose_spec,rfl⟩
   ·cases h
  ·cases h
 ·cases h
section
variable {P:Program}{w:World}{K:PySem.W.Frag}{mg:Str->Option Value}{base:Heap}
abbrev Zdl:List Str:=["hall","people","point","step","most"]
def Zgo:FnScope Zdl Zdl (Zi E7):=⟨rfl,rfl,rfl,by decide +kernel,rfl,by decide +kernel,by decide +kernel⟩
def Zdm {f:Addr}{fd:FuncData}{CF:Addr} (F:Fun K "walk" "walk" E7 f fd) {f1 f2:Addr}{fd1 fd2:FuncData}
  (Mk1:Mk K CF f1) (G1:FnOk P w K mg base Yd 2 f1 fd1 ["self","hall","people"] (Zj2 K CF (Fg []))) (b1:Binds K fd1 ["self","hall","people"] []) (m1:mg "Floor"=some (.ref CF))
  (G2:FnOk P w K mg base Yd 6 f2 fd2 ["floor","point","step","most"] (Zne K fW)) (b2:Binds K fd2 ["floor","point","step","most"] []) (k2:PySem.W.keepIn K (.ref f2)=true) (m2:mg "walk_on"=some (.ref f2)):
  FnOk P w K mg base Yd 7 f fd Zdl (Sr K F_walk):=by
 refine F.ok Zgo (fun vs H Q E h=>?_) (fun cdv A outer s H vs Q E hr h=>?_)
 ·obtain⟨Hf,ds,s,e,rs,hF,_⟩:=h
  obtain⟨hall,ppl,pt,st,mo,q,d,rfl,_⟩:=Mp hF
  rw[<-rs.length]
  rfl
 ·obtain⟨Hf,ds,s',e,rs,hF,kk⟩:=h
  obtain⟨hall,ppl,pt,st,mo,q,d,rfl,hq,hl,hw,rfl⟩:=Mp hF
  refine⟨_,X1 (W3 (Kd (dvs:=[]) (E:=E0) G2 (hr.mono (by decide)) (by rfl) m2 k2 b2 .nil Jh
   (Qh (R3 (dvs:=[]) (E:=E0) Mk1 G1 (hr.mono (by decide)) (by rfl) m1 b1 .nil Jh (Qh (Z9 (i:=0) rfl (.inl rfl) (by decide) (by decide)) (Qh (Z9 (i:=1) rfl (.inl rfl) (by decide) (by decide)) Xa rfl) rfl))
   (Qh (Z9 (i:=2) rfl (.inl rfl) (by decide) (by decide)) (Qh (Z9 (i:=3) rfl (.inl rfl) (by decide) (by decide)) (Qh (Z9 (i:=4) rfl (.inl rfl) (by decide) (by decide)) Xa rfl) rfl) rfl) rfl))),?_⟩
  obtain⟨v0,_,rfl,r0,rs⟩:=reps_cons.mp rs
  obtain⟨v1,_,rfl,r1,rs⟩:=reps_cons.mp rs
  obtain⟨v2,_,rfl,r2,rs⟩:=reps_cons.mp rs
  obtain⟨v3,_,rfl,r3,rs⟩:=reps_cons.mp rs
  obtain⟨v4,_,rfl,r4,rs⟩:=reps_cons.mp rs
  cases reps_nil.mp rs
  refine⟨v0,rfl,v1,rfl,fun x dx hx hdx hne=>?_⟩
  have sm:Same H (upd (upd H dx (.own x)) x (.ins CF dx [])):=(Qa hdx _).trans (Qa ((Zm hne.symm).trans hx) _)
  refine⟨Hf,x,dx,hall,ppl,q,v0,v1,rfl,e.trans sm,none_of e hx,Zo,r0,r1,hl,hq,fun Hf' H' k s1 s2 al ba fl hk ck nk=>⟨rfl,v2,rfl,v3,rfl,v4,rfl,?_⟩⟩
  have nk0:H k=none:=none_of sm nk
  refine⟨Hf',x,hall,qD q,k,pt,st,mo,d,[v2,v3,v4],0,rfl,s2,fl,hk,⟨[],[],ck,.nil,Nat.le_refl _,fun _ _ _ _ h=>by cases h⟩,by decide,Reps.cons (r2.mono s1) (Reps.cons (r3.mono s1) (Reps.cons (r4.mono s1) Reps.nil)),fun a1 a2=>hw x a1 a2,fun v' Hf2 H2 gm _ rv=>kk v' Hf2 H2 ⟨s1.trans gm.fz,gm.sub,fun b u hb=>?_,fun b hb hn=>?_⟩ rv⟩
  ·have bx:b≠x:=fun z=>by rw[z,hx] at hb;cases hb
   have bk:b≠k:=fun z=>by rw[z,nk0] at hb;cases hb
   exact gm.all b u bk (al b u bx (sm _ _ hb))
  ·obtain⟨o,ho,no⟩:=id hb
   have bx:b≠x:=fun z=>by rw[z,hx] at ho;cases ho
   exact gm.ban b ⟨o,al b o bx (sm _ _ ho),no⟩ (ba b (sm.lv hb) hn bx)
end
section
variable {P:Program}{w:World}{K:PySem.W.Frag}{mg:Str->Option Value}{base:Heap}
noncomputable def Yr:List D->M S:=V8 3 7
  (Zu (Z8 3 (Zn Zs 0[1]! 1[1]!))
   (Zu (Z8 4 (Zn Zs 0[0]! 1[1]!))
   (Zu (Z8 5 (Zn Zs 1[0]! 0[1]!))
   (Zu (Z8 6 (Zn Zs (Zd 2) (Zd 3)))
   (Zu (Z8 7 (Uv Zj))
   (Zu (Xr (Xi (Qn (Zc (Zd 5) (Zc (F6 S0 (Zd 5)) Zj)))) (Yw 8) (Zu (Z8 9 (Zn Vs (Zn Q5 (Zn Qg (Zn Vs (Zd 8) (Zd 4)) (Zd 6)) (Zn Zs ↑2 (Zd 3))) (Zd 6)))
   (Z8 7 (Zn Qg (Zd 7) (Zj8 (Zc (Zd 9) (Zc (Zn Qg (Zd 6) ↑1) (Zc (Zn Zs ↑2 (Zd 3)) Zj))))))))
   (Zcl (Ut (Xi (Jx R5 (Zc (Zd 7) Zj))) 1 [3] (Yw 0) (Zv Jq (Zc (Zd 0) (Zc (Zd 1) Zj)))))))))))
def sc_parts_to_images:FnScope ["one","other","reach","bottom","begin","end","farthest","tops","image","least"] ["one","other","reach"] (Zi Q6):=⟨rfl,rfl,rfl,by decide +kernel,rfl,by decide +kernel,by decide +kernel⟩
def Gf (d:Dm K mg "parts_to_images" Q6) (c_amount:Cl P w K mg base 2 "amount" ["top","bottom"] Jq) (z_list:mg "list"=none) (z_range:mg "range"=none) (z_sorted:mg "sorted"=none):Cl P w K mg base 3 "parts_to_images" ["one","other","reach"] Yr:=
 d.cl (by trivial) fun _ _ F=>Jj F sc_parts_to_images rfl rfl fun cdv A outer s H E hr=>
  (Zh (Zq 3 sc_parts_to_images.nd (Zr Z5 (Zz (Zb 0)) (Zz (Zb 1))))
   (Zh (Zq 4 sc_parts_to_images.nd (Zr Z5 (Zz (Zb 0)) (Zz (Zb 1))))
   (Zh (Zq 5 sc_parts_to_images.nd (Zr Z5 (Zz (Zb 1)) (Zz (Zb 0))))
   (Zh (Zq 6 sc_parts_to_images.nd (Zr Z5 (Zb 2) (Zb 3)))
   (Zh (Zq 7 sc_parts_to_images.nd (K5 Ze))
   (Zh (Yh PassesOwn.never rfl (Yq (Qd (Za (Zb 5) (Za (Ch Pj (Zb 5)) Ze)))) (Z3 8 sc_parts_to_images.nd) (Zh (Zq 9 sc_parts_to_images.nd (Zr J2 (Zr Ya (Zr Qu (Zr J2 (Zb 8) (Zb 4)) (Zb 6)) (Zr Z5 Zg (Zb 3))) (Zb 6)))
   (Zl (Zq 7 sc_parts_to_images.nd (Zr Qu (Zb 7) (Zj9 rfl z_list z_range (Za (Zb 9) (Za (Zr Qu (Zb 6) Zg) (Za (Zr Z5 Zg (Zb 3)) Ze)))))))))
   (Zl (Zcm (U8 (Nc:=["top","bottom"]) rfl (Ue (fun y hy hf=>Xy (Rt (sc:=Zi Q6) (by decide +kernel) y hy hf))) (Zfx (sc:=Zi Q6) rfl rfl (by decide +kernel) (Rt (by decide +kernel)) (fun y hy hf=>Xy (Rt (sc:=Zi Q6) (by decide +kernel) y hy hf)) rfl (R6 (N:=["one","other","reach","bottom","begin","end","farthest","tops","image","least"]) rfl (by decide +kernel))) rfl (by decide +kernel) (by decide +kernel) (K0 (by decide)) (Yq (Ql O1 (by rfl) z_sorted (by rfl) (Za (Zb 7) Ze))) (fun s3 H3 C ex=>Z3 0 (show(["top","bottom"]:List Str).Nodup by decide +kernel)) (fun s3 H3 C ex=>by exact(Z4 c_amount (hr.mono (by decide)) (Za (Zb 0) (Za (Zb 1) Ze)))))))))))))
noncomputable def Xg:List D->M S:=V8 4 4
  (Zu (Wy 4 (T9 Zj))
   (Zu (Z8 5 (Zv Yr (Zc 0[1]! (Zc 1[1]! (Zc (Zd 3) Zj)))))
   (Zu (Xr (Xi (Zv Yr (Zc 0[0]! (Zc 1[0]! (Zc (Zd 2) Zj))))) (Yw 6) (Xr (Xi (Zd 5)) (Yw 7) (Jf (tB (F6 (Zaa 0 1 0 1) (Qn (Zc (Zd 6) (Zc (Zd 7) Zj))))) (K8 4 (Qn (Zc (Zd 6) (Zc (Zd 7) Zj)))) Q8)))
   (L7 4))))
def sc_steps_to_images:FnScope ["one","other","reach_across","reach_upward","steps","parts_upward","dx","dy"] ["one","other","reach_across","reach_upward"] (Zi Jp):=⟨rfl,rfl,rfl,by decide +kernel,rfl,by decide +kernel,by decide +kernel⟩
def Gg (d:Dm K mg "steps_to_images" Jp) (c_parts_to_images:Cl P w K mg base 3 "parts_to_images" ["one","other","reach"] Yr) {at_NO_STEP:Addr} (mt_NO_STEP:mg "NO_STEP"=some (.ref at_NO_STEP)) (tb_NO_STEP:Mf K at_NO_STEP 0 1 0 1=true):Cl P w K mg base 4 "steps_to_images" ["one","other","reach_across","reach_upward"] Xg:=
 d.cl (by trivial) fun _ _ F=>Jj F sc_steps_to_images rfl rfl fun cdv A outer s H E hr=>
  (Zh (Jl 4 sc_steps_to_images.nd (Kq Ze))
   (Zh (Zq 5 sc_steps_to_images.nd (Z4 c_parts_to_images (hr.mono (by decide)) (Za (Zz (Zb 0)) (Za (Zz (Zb 1)) (Za (Zb 3) Ze)))))
   (Zh (Yh PassesOwn.never rfl (Yq (Z4 c_parts_to_images (hr.mono (by decide)) (Za (Zz (Zb 0)) (Za (Zz (Zb 1)) (Za (Zb 2) Ze))))) (Z3 6 sc_steps_to_images.nd) (Zl (Yh PassesOwn.never rfl (Yq (Zb 5)) (Z3 7 sc_steps_to_images.nd) (Zl (Qk (Zf8 hr.units mt_NO_STEP tb_NO_STEP (Qd (Za (Zb 6) (Za (Zb 7) Ze)))) (Zl (Kr 4 (Qd (Za (Zb 6) (Za (Zb 7) Ze))))) Qe)))))
   (Zl (U9 4)))))
noncomputable def Wj:List D->M S:=V8 2 0
  (Qv (Rq (Zn Jw 0[0]! ↑"end") (Zn Jw 0[1]! (Zd 1))))
def Zah:FnScope ["told","person"] ["told","person"] (Zi Tf):=⟨rfl,rfl,rfl,by decide +kernel,rfl,by decide +kernel,by decide +kernel⟩
def Zai (d:Dm K mg "is_way" Tf)  : Cl P w K mg base 1 "is_way" ["told","person"] Wj:=
 d.cl (by trivial) fun _ _ F=>Jj F Zah rfl rfl fun cdv A outer s H E hr=>
  (Zl (Zt (Pa (X7 (Ye hr.units) (Zz (Zb 0)) Qt (Zx _)) (Sq (X7 (Ye hr.units) (Zz (Zb 0)) (Zb 1) (Zx _))))))
end
def T4 (hall:D)(ppl:List D)(one other most reach:D)(fl fo t8 t9 t10:Option S):Zf:=[some (.im hall),some (.im (.lst ppl)),some (.im one),some (.im other),some (.im most),some (.im reach),fl,fo,t8,t9,t10]
noncomputable def iI:Zf->M (List D):=Xi (Zv Xg (Zc (Zn Jg (Zd 1) (Zd 2)) (Zc (Zn Jg (Zd 1) (Zd 3)) (Zc (Zd 5) (Zc (Zd 5) Zj)))))
noncomputable def C9:Zf->M D:=Ao (DL.tB (Zv Wj (Zc (Zd 9) (Zc (Zn Jg (Zd 1) (Zd 3)) Zj)))) ↑"seen" 9[0]!
def Zaj:Zf->M D:=Qn (Zc 8[0]! (Zc 8[1]! (Zc (Zd 10) (Zc 9[1]! Zj))))
noncomputable def W1 (hall:D)(ppl:List D)(q:Nn)(one other most reach:D):List D->List D->M (List D)
 |[],fo=>.ok fo
 |st::r,fo=>(Jg (.lst ppl) one).bind fun pt=>(wD hall q pt st most).bind fun d=>
  (C9 (T4 hall ppl one other most reach none none (some (.im st)) (some (.im d)) none)).bind fun wd=>
  (Zaj (T4 hall ppl one other most reach none none (some (.im st)) (some (.im d)) (some (.im wd)))).bind fun row=>if few fo=true then W1 hall ppl q one other most reach r (fo++[row]) else .bad
noncomputable def F_images:List D->M S
 |[hall,.lst ppl,one,other,most,reach]=>(match Fg [] ppl with
  |some q=>if ppl.length<=1000000 then(iI (T4 hall ppl one other most reach none none none none none)).bind fun steps=>if steps.length<=5000 then(W1 hall ppl q one other most reach steps []).bind fun fo=>.ok (.ow fo) else .bad else .bad
  |none=>.bad)
 |_=>.bad
def Rj {ds:List D}{s:S}(h:F_images ds=.ok s):∃hall ppl one other most reach q steps fo,ds=[hall,.lst ppl,one,other,most,reach]/\Fg [] ppl=some q/\ppl.length<=1000000/\iI (T4 hall ppl one other most reach none none none none none)=.ok steps/\steps.length<=5000/\W1 hall ppl q one other most reach steps []=.ok fo/\s=.ow fo:=by
 unfold F_images at h
 split at h
 ·rename_i hall ppl one other most reach
  split at h
  ·rename_i q hq
   split at h
   ·rename_i hl
    obtain⟨steps,e1,h⟩:=bind_ok h
    split at h
    ·rename_i hs
     obtain⟨fo,e2,h⟩:=bind_ok h
     cases h
     exact⟨hall,ppl,one,other,most,reach,q,steps,fo,rfl,hq,hl,e1,hs,e2,rfl⟩
    ·cases h
   ·cases h
  ·cases h
 ·cases h
def Hv {hall:D}{ppl:List D}{one other most reach:D}{a:Addr}{g:D}{kv:Zgl}{fo:List D}{t8 t9 t10:Option S}(h8:Pl t8)(h9:Pl t9)(h10:Pl t10)(i:Nat)(t:S)(h:(T4 hall ppl one other most reach (some (.fl a g kv)) (some (.ow fo)) t8 t9 t10)[i]?=some (some t))(o:t.own=true):∃ds,t=.ow ds:=by
 match i,h with
 |0,h=>cases h;cases o
 |1,h=>cases h;cases o
 |2,h=>cases h;cases o
 |3,h=>cases h;cases o
 |4,h=>cases h;cases o
 |5,h=>cases h;cases o
 |6,h=>cases h;cases o
 |7,h=>cases h;exact⟨_,rfl⟩
 |8,h=>obtain⟨d,rfl⟩:=h8 t (Option.some.inj h);cases o
 |9,h=>obtain⟨d,rfl⟩:=h9 t (Option.some.inj h);cases o
 |10,h=>obtain⟨d,rfl⟩:=h10 t (Option.some.inj h);cases o
 |i+11,h=>cases h
section
variable {P:Program}{w:World}{K:PySem.W.Frag}{mg:Str->Option Value}{base:Heap}
abbrev Kz:List Str:=["hall","people","one","other","most","reach","floor","found","step","told","word"]
def sc_images:FnScope Kz ["hall","people","one","other","most","reach"] (Zi Xl):=⟨rfl,rfl,rfl,by decide +kernel,rfl,by decide +kernel,by decide +kernel⟩
abbrev xA (i:Nat):Stmt:=(Y5 Xl).getD i (.Pass ⟨0,0,0,0⟩)
abbrev xB (i:Nat):Stmt:=(Zmn (xA 2)).getD i (.Pass ⟨0,0,0,0⟩)
def Zak {f:Addr}{fd:FuncData}{CF:Addr} (F:Fun K "images" "images" Xl f fd) {f1 f2 f3 f4:Addr}{fd1 fd2 fd3 fd4:FuncData}{l3 l4:Nat}
  (Mk1:Mk K CF f1) (G1:FnOk P w K mg base Yd 2 f1 fd1 ["self","hall","people"] (Zj2 K CF (Fg []))) (b1:Binds K fd1 ["self","hall","people"] []) (m1:mg "Floor"=some (.ref CF))
  (G2:FnOk P w K mg base Yd 6 f2 fd2 ["floor","point","step","most"] (Zne K fW)) (b2:Binds K fd2 ["floor","point","step","most"] []) (k2:PySem.W.keepIn K (.ref f2)=true) (m2:mg "walk_on"=some (.ref f2))
  (h3:l3<=6) (G3:FnOk P w K mg base Yd l3 f3 fd3 ["one","other","reach_across","reach_upward"] (Sr K Xg)) (b3:Binds K fd3 ["one","other","reach_across","reach_upward"] []) (k3:PySem.W.keepIn K (.ref f3)=true) (m3:mg "steps_to_images"=some (.ref f3))
  (h4:l4<=6) (G4:FnOk P w K mg base Yd l4 f4 fd4 ["told","person"] (Sr K Wj)) (b4:Binds K fd4 ["told","person"] []) (k4:PySem.W.keepIn K (.ref f4)=true) (m4:mg "is_way"=some (.ref f4)):
  FnOk P w K mg base Yd 7 f fd ["hall","people","one","other","most","reach"] (Sr K F_images):=by
 refine F.ok sc_images (fun vs H Q E h=>?_) (fun cdv A outer s H vs Q E hr h=>?_)
 ·obtain⟨Hf,ds,s,e,rs,hF,_⟩:=h
  obtain⟨hall,ppl,one,other,most,reach,q,steps,fo,rfl,_⟩:=Rj hF
  rw[<-rs.length]
  rfl
 ·obtain⟨Hf,ds,s',e,rs,hF,kk⟩:=h
  obtain⟨hall,ppl,one,other,most,reach,q,steps,fo,rfl,hq,hl,est,hls,hlo,rfl⟩:=Rj hF
  obtain⟨tF,pF,qF⟩:T3 (X5 Yd P w K mg base Kz "images" (Zi Xl) f cdv A outer s H E).nox E0 _ _:=Za (Zb 0) (Za (Zb 1) Ze)
  obtain⟨t2,p2,q2⟩:N8 (X5 Yd P w K mg base Kz "images" (Zi Xl) f cdv A outer s H E).nox E0 (xA 1) _:=Jl 7 sc_images.nd (Kq Ze)
  obtain⟨wi,pI,qI⟩:Zhr (X5 Yd P w K mg base Kz "images" (Zi Xl) f cdv A outer s H E).nox E0 _ _ iI:=Yq (Xb G3 (hr.mono (by lia)) m3 k3 b3 (Za (Ji (Zb 1) (Zb 2) (fun _ _=>rfl)) (Za (Ji (Zb 1) (Zb 3) (fun _ _=>rfl)) (Za (Zb 5) (Za (Zb 5) Ze)))))
  obtain⟨tg,pG,qG⟩:Zhq (X5 Yd P w K mg base Kz "images" (Zi Xl) f cdv A outer s H E).nox _ (Yw 8):=Z3 8 sc_images.nd
  obtain⟨tA,pA,qA⟩:Zhu (X5 Yd P w K mg base Kz "images" (Zi Xl) f cdv A outer s H E).nox E0 _ _:=Kt 6 (Ws (Ji (Zb 1) (Zb 2) (fun _ _=>rfl)) (Ws (Zb 8) (Ws (Zb 4) R9)))
  obtain⟨tR,pR,qR⟩:Gs (X5 Yd P w K mg base Kz "images" (Zi Xl) f cdv A outer s H E).nox E0 [xB 1,xB 2] (Zu (Z8 10 C9) (K8 7 Zaj)):=Zh (Zq 10 sc_images.nd (Kh (Yb (Xb G4 (hr.mono (by lia)) m4 k4 b4 (Za (Zb 9) (Za (Ji (Zb 1) (Zb 3) (fun _ _=>rfl)) Ze)))) Qt (Zz (Zb 9)))) (Zl (Kr 7 (Qd (Za (Zz (Zb 8)) (Za (Zz (Zb 8)) (Za (Zb 10) (Za (Zz (Zb 9)) Ze)))))))
  obtain⟨tE,pE,qE⟩:N8 (X5 Yd P w K mg base Kz "images" (Zi Xl) f cdv A outer s H E).nox E0 (xA 3) _:=U9 7
  refine⟨_,Qj (Vr sc_images.nd (i:=6) rfl (.inl rfl) (R3 (dvs:=[]) (E:=E0) Mk1 G1 (hr.mono (by decide)) (by rfl) m1 b1 .nil Jh pF) rfl (.inl rfl))
   (Qj p2 (Qj (M3 PassesOwn.never rfl pI pG (Qj (Vr sc_images.nd (i:=9) rfl (.inl rfl) (Kd (dvs:=[]) (E:=E0) G2 (hr.mono (by decide)) (by rfl) m2 k2 b2 .nil Jh pA) rfl (.inl rfl)) pR)) (X1 pE))),?_⟩
  have sr0:=Cb (K:=K) (N:=Kz) (m:=5) e rs rfl
  refine qF _ _ _ _ _ _ _ sr0 ?_
  show Po K E0 (rA K) Hf H (M.ok [hall,.lst ppl]) _
  intro vs1 Hf1 H1 g1 rs1 x dx hx hdx hne
  obtain⟨vh,_,rfl,rh,rs1⟩:=reps_cons.mp rs1
  obtain⟨vp,_,rfl,rp,rs1⟩:=reps_cons.mp rs1
  cases reps_nil.mp rs1
  have sm:Same H1 (upd (upd H1 dx (.own x)) x (.ins CF dx [])):=(Qa hdx _).trans (Qa ((Zm hne.symm).trans hx) _)
  refine⟨Hf1,x,dx,hall,ppl,q,vh,vp,rfl,g1.sub.trans sm,none_of g1.sub hx,Zo,rh,rp,hl,hq,fun Hf2 H2 k s1 s2 al ba fl hk ck nk=>⟨rfl,?_⟩⟩
  have sr1:=sr0.gr g1
  have sr2:SR K H _ Hf2 (T4 hall ppl one other most reach (some (.fl x hall (qD q))) none none none none) _ H2:=Zdk (i:=6) sr1 (fun j t h=>by
   match j,h with
   |0,h=>cases h;rfl
   |1,h=>cases h;rfl
   |2,h=>cases h;rfl
   |3,h=>cases h;rfl
   |4,h=>cases h;rfl
   |5,h=>cases h;rfl
   |6,h=>cases h
   |7,h=>cases h
   |8,h=>cases h
   |9,h=>cases h
   |10,h=>cases h
   |j+11,h=>cases h) hx hdx hne s1 s2 al ba fl
  have hk0:H k=none:=none_of (g1.all.trans sm) nk
  have ca2:CaAt K (Ug Qx hall) 0 Hf2 H2 k:=⟨[],[],ck,.nil,Nat.le_refl _,fun _ _ _ _ h=>by cases h⟩
  have bt:∀b,(Lv H b/\Hf b=none)->Lv H b:=fun b hb=>hb.1
  have srk:=sr2.keep ck ca2.lv hk (sr2.offD ck fun i t h o=>by
   match i,h with
   |0,h=>cases h;cases o
   |1,h=>cases h;cases o
   |2,h=>cases h;cases o
   |3,h=>cases h;cases o
   |4,h=>cases h;cases o
   |5,h=>cases h;cases o
   |6,h=>cases h;cases o
   |7,h=>cases h
   |8,h=>cases h
   |9,h=>cases h
   |10,h=>cases h
   |i+11,h=>cases h)
  refine q2 _ _ _ _ _ _ _ srk (Vu (sd':=T4 hall ppl one other most reach (some (.fl x hall (qD q))) (some (.ow [])) none none none) rfl fun σ3 Hf3 H3 s3 sr3=>?_)
  obtain⟨hc3,hk3,sr3⟩:=sr3.back hk0 bt
  have ca3:CaAt K (Ug Qx hall) 0 Hf3 H3 k:=⟨[],[],hc3,.nil,Nat.le_refl _,fun _ _ _ _ h=>by cases h⟩
  have fl3:=fl.mono s3
  have sA:=g1.fz.trans (s1.trans s3)
  clear srk sr2 sr1 ca2
  refine qI _ _ _ _ _ _ _ sr3 ?_
  rw[show iI (T4 hall ppl one other most reach (some (.fl x hall (qD q))) (some (.ow [])) none none none)=.ok steps from est]
  intro J Hf4 H4 g4 J4
  refine⟨fun i m σ' H'=>m=steps.length-i/\∃Hf' fo' t7 t8 t10,Same Hf4 Hf'/\SR K H (fun b=>Lv H b/\Hf b=none) Hf' (T4 hall ppl one other most reach (some (.fl x hall (qD q))) (some (.ow fo')) t7 t8 t10) σ' H'/\Hf' k=none/\CaAt K (Ug Qx hall) (3000*i) Hf' H' k/\Pl t7/\Pl t8/\Pl t10/\W1 hall ppl q one other most reach (steps.drop i) fo'=.ok fo,
   ⟨_,rfl,Hf4,[],none,none,none,Same.refl _,sr3.gr g4,g4.ban k ca3.lv hk3,ca3.mono g4.fz (fun o z=>g4.all _ _ z),Y8,Y8,Y8,hlo⟩,?_⟩
  rintro i m σ5 H5 ⟨rfl,Hf5,fo',t7,t8,t10,s5,sr5,hk5,ca5,h7,h8,h10,hl5⟩
  have jj:=J4 i Hf5 H5 s5 sr5.sub
  cases qi:steps[i]? with
  |none=>
   rw[qi] at jj
   refine .inl ⟨jj,?_⟩
   rw[List.drop_eq_nil_of_le (List.getElem?_eq_none_iff.mp qi)] at hl5
   cases hl5
   refine qE _ _ _ _ _ _ _ sr5 ?_
   show PoS K E0 _ _ Hf5 (M.ok (O.rt (.ow fo))) _
   intro v Hf' H' s6 fin rv
   exact kk v Hf' H' ⟨sA.trans (g4.fz.trans (s5.trans s6)),fin.sub,fin.all,fun b hb hn=>fin.ban b ⟨hb,hn⟩⟩ rv
  |some st=>
   rw[qi] at jj
   obtain⟨go,yl⟩:=jj
   have hlt:i<steps.length:=(List.getElem?_eq_some_iff.mp qi).1
   have hd:steps.drop i=st::steps.drop (i+1):=by
    rw[List.drop_eq_getElem_cons hlt]
    congr 1
    exact(List.getElem?_eq_some_iff.mp qi).2
   rw[hd] at hl5
   refine .inr ⟨go,fun σ' H'=>∃Hf' fo' t7 t8 t10,Same Hf4 Hf'/\SR K H (fun b=>Lv H b/\Hf b=none) Hf' (T4 hall ppl one other most reach (some (.fl x hall (qD q))) (some (.ow fo')) t7 t8 t10) σ' H'/\Hf' k=none/\CaAt K (Ug Qx hall) (3000*(i+1)) Hf' H' k/\Pl t7/\Pl t8/\Pl t10/\W1 hall ppl q one other most reach (steps.drop (i+1)) fo'=.ok fo,
    fun σ' H' w=>⟨steps.length-(i+1),by lia,rfl,w⟩,fun y H6 y6=>?_⟩
   obtain⟨Hf6,g6,ry⟩:=yl y H6 y6
   have sr6:=sr5.gr g6
   have hk6:Hf6 k=none:=g6.ban k ca5.lv hk5
   have ca6:=ca5.mono g6.fz (fun o z=>g6.all _ _ z)
   refine qG _ _ Hf6 _ σ5 H6 y st (T4 hall ppl one other most reach (some (.fl x hall (qD q))) (some (.ow fo')) (some (.im st)) t8 t10) _ sr6 ry rfl fun σ7 sr7=>?_
   unfold W1 at hl5
   obtain⟨pt,ept,hl5⟩:=bind_ok hl5
   obtain⟨d,ed,hl5⟩:=bind_ok hl5
   obtain⟨b,eb,hl5⟩:=bind_ok hl5
   obtain⟨row,erow,hl5⟩:=bind_ok hl5
   refine qA _ _ _ _ _ _ _ sr7 ?_
   have ea:V1 6 (Ni (Zn Jg (Zd 1) (Zd 2)) (Ni (Zd 8) (Ni (Zd 4) Mg))) (T4 hall ppl one other most reach (some (.fl x hall (qD q))) (some (.ow fo')) (some (.im st)) t8 t10)=.ok [.fl x hall (qD q),.im pt,.im st,.im most]:=by
    have:Zn Jg (Zd 1) (Zd 2) (T4 hall ppl one other most reach (some (.fl x hall (qD q))) (some (.ow fo')) (some (.im st)) t8 t10)=.ok pt:=ept
    unfold V1 Ni
    rw[this]
    rfl
   rw[ea]
   intro vs8 Hf8 H8 g8 rs8
   show Zne K fW (vs8++[]) H8 _ E0
   rw[List.append_nil]
   rcases rs8 with _|⟨⟨_,r0⟩,_|⟨⟨_,r1⟩,_|⟨⟨_,r2⟩,_|⟨⟨_,r3⟩,_|_⟩⟩⟩⟩
   have fl8:FlK K Hf8 x hall (qD q) k:=fl3.mono (g4.fz.trans (s5.trans (g6.fz.trans g8.fz)))
   obtain⟨_,_,_,_,_,_,rfl,_⟩:=id r0
   have sr8:=sr7.gr g8
   have hk8:Hf8 k=none:=g8.ban k ca6.lv hk6
   have ca8:=ca6.mono g8.fz (fun o z=>g8.all _ _ z)
   refine⟨Hf8,x,hall,qD q,k,pt,st,most,d,_,3000*i,rfl,g8.sub,fl8,hk8,ca8,by lia,Reps.cons r1 (Reps.cons r2 (Reps.cons r3 Reps.nil)),fun a1 a2=>Zml ed x a1 a2,fun v' Hf9 H9 gm ca9 rv'=>?_⟩
   obtain⟨c8,y8,hc8,_⟩:=id ca8
   have hk9:Hf9 k=none:=gm.ban k ca8.lv hk8
   have sr9:SR K _ _ Hf9 (T4 hall ppl one other most reach (some (.fl x hall (qD q))) (some (.ow fo')) (some (.im st)) (some (.im d)) t10) _ H9:=(sr8.grM gm hk0 (sr8.offD hc8 (Hv Q9 h8 h10))).set_im 9 rv'
   obtain⟨c9,y9,hc9,rc9,lc9,gc9⟩:=id ca9
   have srk:=sr9.keep hc9 ca9.lv hk9 (sr9.offD hc9 (Hv Q9 Q9 h10))
   have sAll:=s5.trans (g6.fz.trans (g8.fz.trans gm.fz))
   split at hl5
   case isFalse=>cases hl5
   rename_i hfew
   refine qR _ _ _ _ _ _ _ srk (Vu (sd':=T4 hall ppl one other most reach (some (.fl x hall (qD q))) (some (.ow (fo'++[row]))) (some (.im st)) (some (.im d)) (some (.im b))) ?_ fun σ10 Hf10 H10 s10 sr10=>?_)
   ·have eb':C9 (T4 hall ppl one other most reach (some (.fl x hall (qD q))) (some (.ow fo')) (some (.im st)) (some (.im d)) t10)=.ok b:=eb
    have er':Zaj (T4 hall ppl one other most reach (some (.fl x hall (qD q))) (some (.ow fo')) (some (.im st)) (some (.im d)) (some (.im b)))=.ok row:=erow
    unfold Zu Z8
    rw[eb']
    show(Zaj (T4 hall ppl one other most reach (some (.fl x hall (qD q))) (some (.ow fo')) (some (.im st)) (some (.im d)) (some (.im b)))).bind (fun d=>if few fo'=true then _ else _)=_
    rw[er']
    show(if few fo'=true then _ else _)=_
    rw[if_pos hfew]
    rfl
   obtain⟨hc10,hk10,sr10⟩:=sr10.back hk0 bt
   exact⟨Hf10,_,_,_,_,sAll.trans s10,sr10,hk10,⟨c9,y9,hc10,rc9.mono s10,by lia,gc9⟩,Q9,Q9,Q9,hl5⟩
end
section
variable {P:Program}{w:World}{K:PySem.W.Frag}{mg:Str->Option Value}{base:Heap}
noncomputable def Q2:List D->M S:=V8 2 0
  (Zu (Jf (tB (Zn T7 (Zd 1) (Jx Vz (Zc (Zd 0) Zj)))) (Qv (Zn Jg (Zd 0) (Zd 1))) Q8)
   (Qv ↑0))
def Zal:FnScope ["_law_script","_law_k"] ["_law_script","_law_k"] (Zi Tg):=⟨rfl,rfl,rfl,by decide +kernel,rfl,by decide +kernel,by decide +kernel⟩
def Zam (d:Dm K mg "_law_cell" Tg) (z_len:mg "len"=none):Cl P w K mg base 1 "_law_cell" ["_law_script","_law_k"] Q2:=
 d.cl (by trivial) fun _ _ F=>Jj F Zal rfl rfl fun cdv A outer s H E hr=>
  (Zh (Qk (Zy Gv (Zb 1) (Ql U5 (by rfl) z_len (by rfl) (Za (Zb 0) Ze)) (Zx _)) (Zl (Zt (Ji (Zb 0) (Zb 1) (fun _ _=>rfl)))) Qe)
   (Zl (Zt Zg)))
noncomputable def Xn:List D->M S:=V8 2 4
  (Zu (Wy 2 (T9 Zj))
   (Zu (Z8 3 (Zn Q5 (Zn Zs (Zn Qg (Zn Q5 (Zd 0) ↑1999999973) ↑31) ↑765432101) ↑1999999973))
   (Zu (Z8 4 ↑0)
   (Zu (Jf (tO (tB (Zn T7 (Zd 0) ↑0)) (tB (Zn Zl0 (Zd 0) (Zn Zfn ↑10 ↑18)))) (Z8 4 (Jx Vt (Zc (Zd 0) Zj))) Q8)
   (Zu (Xr (X4 (Zc (Zd 1) Zj)) (Yw 5) (Zu (Z8 3 (Zn Q5 (Zn Qg (Zn Qg (Zn Zs (Zd 3) (Zn Qg (Zn Q5 (Zd 3) ↑65521) ↑40487)) (Zn Zs ↑7 (Zd 5))) ↑5) ↑1999999973))
   (Zu (K8 2 (Zn Jg (Uv (Zc (Zd 3) (Zc (Zn Q5 (Zd 4) ↑1000000) Zj))) (Jx Ow (Zc (Zn Rp (Zd 4) ↑0) Zj))))
   (Z8 4 (Zn Yv (Zd 4) ↑1000000)))))
   (L7 2))))))
def sc_l_numbers:FnScope ["_law_cell_here","_law_many","_law_found","_law_number","_law_digits","_law_k"] ["_law_cell_here","_law_many"] (Zi Wf):=⟨rfl,rfl,rfl,by decide +kernel,rfl,by decide +kernel,by decide +kernel⟩
def B6 (d:Dm K mg "_law_numbers" Wf) (z_abs:mg "abs"=none) (z_range:mg "range"=none) (z_int:mg "int"=none):Cl P w K mg base 1 "_law_numbers" ["_law_cell_here","_law_many"] Xn:=
 d.cl (by trivial) fun _ _ F=>Jj F sc_l_numbers rfl rfl fun cdv A outer s H E hr=>
  (Zh (Jl 2 sc_l_numbers.nd (Kq Ze))
   (Zh (Zq 3 sc_l_numbers.nd (Zr Ya (Zr Z5 (Zr Qu (Zr Ya (Zb 0) Zg) Zg) Zg) Zg))
   (Zh (Zq 4 sc_l_numbers.nd Zg)
   (Zh (Qk ((Kl (Zy Gv (Zb 0) Zg (Zx _)) (Kf (Zy Zl1 (Zb 0) (Zr Zjb Zg Zg) (Zx _))))).pt (Zl (Zq 4 sc_l_numbers.nd (Ql U4 (by rfl) z_abs (by rfl) (Za (Zb 0) Ze)))) Qe)
   (Zh (Yh PassesOwn.never rfl (J3 (by rfl) z_range (Za (Zb 1) Ze)) (Z3 5 sc_l_numbers.nd) (Zh (Zq 3 sc_l_numbers.nd (Zr Ya (Zr Qu (Zr Qu (Zr Z5 (Zb 3) (Zr Qu (Zr Ya (Zb 3) Zg) Zg)) (Zr Z5 Zg (Zb 5))) Zg) Zg))
   (Zh (Kr 2 (Ji (K5 (Za (Zb 3) (Za (Zr Ya (Zb 4) Zg) Ze))) (So Zjc (by rfl) z_int (by rfl) (Za (X7 P8 (Zb 4) Zg (Zx _)) Ze)) (fun _ _=>rfl)))
   (Zl (Zq 4 sc_l_numbers.nd (Zr Y6 (Zb 4) Zg))))))
   (Zl (U9 2)))))))
noncomputable def Ka:List D->M S:=V8 2 0
  (Zu (Z8 0 (Jx Vt (Zc (Zd 0) Zj)))
   (Zu (Z8 1 (Jx Vt (Zc (Zd 1) Zj)))
   (Zu (W5 (tB (Zn Rp (Zd 1) ↑0)) (Ox 0 1 (Zc (Zd 1) (Zc (Zn Q5 (Zd 0) (Zd 1)) Zj))))
   (Qv (Zd 0)))))
def sc_l_common:FnScope ["_law_one","_law_other"] ["_law_one","_law_other"] (Zi Gb):=⟨rfl,rfl,rfl,by decide +kernel,rfl,by decide +kernel,by decide +kernel⟩
def Da (d:Dm K mg "_law_common" Gb) (z_abs:mg "abs"=none):Cl P w K mg base 1 "_law_common" ["_law_one","_law_other"] Ka:=
 d.cl (by trivial) fun _ _ F=>Jj F sc_l_common rfl rfl fun cdv A outer s H E hr=>
  (Zh (Zq 0 sc_l_common.nd (Ql U4 (by rfl) z_abs (by rfl) (Za (Zb 0) Ze)))
   (Zh (Zq 1 sc_l_common.nd (Ql U4 (by rfl) z_abs (by rfl) (Za (Zb 1) Ze)))
   (Zh (L3 PassesOwn.never (Zy P8 (Zb 1) Zg (Zx _)) (Zl (Zfq 0 1 rfl sc_l_common.nd (Za (Zb 1) (Za (Zr Ya (Zb 0) (Zb 1)) Ze)) (by rfl))))
   (Zl (Zt (Zb 0))))))
noncomputable def X8:List D->M S:=V8 2 1
  (Zu (Z8 2 (Zv Ka (Zc (Zd 0) (Zc (Zd 1) Zj))))
   (Qv (Qn (Zc (Zn Yv (Zd 0) (Zd 2)) (Zc (Zn Yv (Zd 1) (Zd 2)) Zj)))))
def sc_l_lowest:FnScope ["_law_top","_law_bottom","_law_shared"] ["_law_top","_law_bottom"] (Zi Gc):=⟨rfl,rfl,rfl,by decide +kernel,rfl,by decide +kernel,by decide +kernel⟩
def Db (d:Dm K mg "_law_lowest" Gc) (c_l_common:Cl P w K mg base 1 "_law_common" ["_law_one","_law_other"] Ka):Cl P w K mg base 2 "_law_lowest" ["_law_top","_law_bottom"] X8:=
 d.cl (by trivial) fun _ _ F=>Jj F sc_l_lowest rfl rfl fun cdv A outer s H E hr=>
  (Zh (Zq 2 sc_l_lowest.nd (Z4 c_l_common (hr.mono (by decide)) (Za (Zb 0) (Za (Zb 1) Ze))))
   (Zl (Zt (Qd (Za (Zr Y6 (Zb 0) (Zb 2)) (Za (Zr Y6 (Zb 1) (Zb 2)) Ze))))))
noncomputable def V2:List D->M S:=V8 6 2
  (Zu (Z8 6 (Zn Jg ↑"mpm" (Zn Q5 (Zd 5) ↑3)))
   (Zu (Z8 7 (Zn Jg ↑"mmp" (Zn Q5 (Zn Yv (Zd 5) ↑3) ↑3)))
   (Zu (Jf (tO (tA (tB (Wb T7 T7 ↑0 (Zd 3) (Zd 4))) (tB (Zn Rp (Zn Q5 (Zn Yv (Zd 5) ↑9) ↑3) ↑0))) (tA (tN (tB (Wb T7 T7 ↑0 (Zd 3) (Zd 4)))) (tB (Zn Jw (Zn Q5 (Zn Yv (Zd 5) ↑9) ↑6) ↑5)))) (Qv (Uv Zj)) Q8)
   (Zu (Jf (tB (Zn Jw (Zd 3) ↑0)) (Z8 6 ↑"p") Q8)
   (Zu (Jf (tB (Zn Jw (Zd 3) (Zd 4))) (Z8 7 ↑"p") Q8)
   (Qv (Uv (Zc (Qn (Zc (Zd 0) (Zc (Zd 1) (Zc (Zd 2) (Zc (Zd 6) (Zc (Zd 7) Zj)))))) Zj))))))))
def sc_l_side:FnScope ["_law_kind","_law_x","_law_y","_law_at","_law_end","_law_number","_law_one","_law_other"] ["_law_kind","_law_x","_law_y","_law_at","_law_end","_law_number"] (Zi Ti):=⟨rfl,rfl,rfl,by decide +kernel,rfl,by decide +kernel,by decide +kernel⟩
def Zan (d:Dm K mg "_law_side" Ti)  : Cl P w K mg base 1 "_law_side" ["_law_kind","_law_x","_law_y","_law_at","_law_end","_law_number"] V2:=
 d.cl (by trivial) fun _ _ F=>Jj F sc_l_side rfl rfl fun cdv A outer s H E hr=>
  (Zh (Zq 6 sc_l_side.nd (Ji Qt (Zr Ya (Zb 5) Zg) (fun _ _=>rfl)))
   (Zh (Zq 7 sc_l_side.nd (Ji Qt (Zr Ya (Zr Y6 (Zb 5) Zg) Zg) (fun _ _=>rfl)))
   (Zh (Qk ((Kl ((V7 (L8 Gv Gv Zg (Zb 3) (Zb 4)) (V0 (Zy P8 (Zr Ya (Zr Y6 (Zb 5) Zg) Zg) Zg (Zx _))))).pt (Kf ((V7 (X2 (L8 Gv Gv Zg (Zb 3) (Zb 4))) (V0 (Zy (Ye hr.units) (Zr Ya (Zr Y6 (Zb 5) Zg) Zg) Zg (Zx _))))).pt))).pt (Zl (Zt (K5 Ze))) Qe)
   (Zh (Qk (Zy (Ye hr.units) (Zb 3) Zg (Zx _)) (Zl (Zq 6 sc_l_side.nd Qt)) Qe)
   (Zh (Qk (Zy (Ye hr.units) (Zb 3) (Zb 4) (Zx _)) (Zl (Zq 7 sc_l_side.nd Qt)) Qe)
   (Zl (Zt (K5 (Za (Qd (Za (Zb 0) (Za (Zb 1) (Za (Zb 2) (Za (Zb 6) (Za (Zb 7) Ze)))))) Ze)))))))))
noncomputable def Nt:List D->M S:=V8 3 4
  (Zu (Wy 3 (Rc Xn (Zc (Zd 0) (Zc (Zn Qg (Zn Qg (Zn Zs (Zn Zs ↑2 (Zd 1)) (Zd 2)) (Zd 1)) (Zd 2)) Zj))))
   (Zu (Z8 4 (Uv Zj))
   (Zu (Xr (X4 (Zc (Zn Qg (Zd 1) ↑1) Zj)) (Yw 5) (Xr (X4 (Zc (Zd 2) Zj)) (Yw 6) (Cp 4 (Zmc Qg (Zd 4) (Me V2 (Yl ↑"up" (Yl (Zd 5) (Yl (Zd 6) (Yl (Zd 5) (Yl (Zd 1) (Pn (Cn 3))))))))))))
   (Zu (Xr (X4 (Zc (Zd 1) Zj)) (Yw 5) (Xr (X4 (Zc (Zn Qg (Zd 2) ↑1) Zj)) (Yw 6) (Cp 4 (Zmc Qg (Zd 4) (Me V2 (Yl ↑"flat" (Yl (Zd 5) (Yl (Zd 6) (Yl (Zd 6) (Yl (Zd 2) (Pn (Cn 3))))))))))))
   (Qv (Qn (Zc (Zd 1) (Zc (Zd 2) (Zc (Jx Ee (Zc (Jx S5 (Zc (Zd 4) Zj)) Zj)) Zj)))))))))
def sc_l_hall:FnScope ["_law_cell_here","_law_width","_law_height","_law_xs","_law_sides","_law_x","_law_y"] ["_law_cell_here","_law_width","_law_height"] (Zi Tj):=⟨rfl,rfl,rfl,by decide +kernel,rfl,by decide +kernel,by decide +kernel⟩
def Zao (d:Dm K mg "_law_hall" Tj) (c_l_numbers:Cl P w K mg base 1 "_law_numbers" ["_law_cell_here","_law_many"] Xn) (c_l_side:Cl P w K mg base 1 "_law_side" ["_law_kind","_law_x","_law_y","_law_at","_law_end","_law_number"] V2) (z_range:mg "range"=none) (z_sorted:mg "sorted"=none) (z_tuple:mg "tuple"=none):Cl P w K mg base 2 "_law_hall" ["_law_cell_here","_law_width","_law_height"] Nt:=
 d.cl (by trivial) fun _ _ F=>Jj F sc_l_hall rfl rfl fun cdv A outer s H E hr=>
  (Zh (Jl 3 sc_l_hall.nd (Mo c_l_numbers (hr.mono (by decide)) (Za (Zb 0) (Za (Zr Qu (Zr Qu (Zr Z5 (Zr Z5 Zg (Zb 1)) (Zb 2)) (Zb 1)) (Zb 2)) Ze))))
   (Zh (Zq 4 sc_l_hall.nd (K5 Ze))
   (Zh (Yh PassesOwn.never rfl (J3 (by rfl) z_range (Za (Zr Qu (Zb 1) Zg) Ze)) (Z3 5 sc_l_hall.nd) (Zl (Yh PassesOwn.never rfl (J3 (by rfl) z_range (Za (Zb 2) Ze)) (Z3 6 sc_l_hall.nd) (Zl (He 4 sc_l_hall.nd (Zht Qu (Zb 4) (Cy c_l_side (hr.mono (by decide)) (Xz Qt (Xz (Zb 5) (Xz (Zb 6) (Xz (Zb 5) (Xz (Zb 1) (Co (Zcx 3))))))))))))))
   (Zh (Yh PassesOwn.never rfl (J3 (by rfl) z_range (Za (Zb 1) Ze)) (Z3 5 sc_l_hall.nd) (Zl (Yh PassesOwn.never rfl (J3 (by rfl) z_range (Za (Zr Qu (Zb 2) Zg) Ze)) (Z3 6 sc_l_hall.nd) (Zl (He 4 sc_l_hall.nd (Zht Qu (Zb 4) (Cy c_l_side (hr.mono (by decide)) (Xz Qt (Xz (Zb 5) (Xz (Zb 6) (Xz (Zb 6) (Xz (Zb 2) (Co (Zcx 3))))))))))))))
   (Zl (Zt (Qd (Za (Zb 1) (Za (Zb 2) (Za (So Zb3 (by rfl) z_tuple (by rfl) (Za (Ql Zct (by rfl) z_sorted (by rfl) (Za (Zb 4) Ze)) Ze)) Ze))))))))))
noncomputable def Vf:List D->M S:=V8 3 2
  (Zu (Z8 3 (Zn Qg ↑2 (Zn Q5 (Zd 0) (Zn Jg (Uv (Zc ↑4 (Zc ↑8 (Zc ↑30 (Zc ↑999 Zj))))) (Zn Q5 (Zn Yv (Zd 0) ↑1000) ↑4)))))
   (Zu (Z8 4 (Zn Qg ↑1 (Zn Q5 (Zd 1) (Zn Vs (Zn Zs (Zd 2) (Zd 3)) ↑1))))
   (Zu (Jf (tB (Zn Jw (Zn Q5 (Zd 4) (Zd 3)) ↑0)) (Z8 4 (Zn Vs (Zd 4) ↑1)) Q8)
   (Qv (Zv X8 (Zc (Zd 4) (Zc (Zd 3) Zj)))))))
def sc_l_part:FnScope ["_law_number","_law_other","_law_size_here","_law_bottom","_law_top"] ["_law_number","_law_other","_law_size_here"] (Zi Tl):=⟨rfl,rfl,rfl,by decide +kernel,rfl,by decide +kernel,by decide +kernel⟩
def Zap (d:Dm K mg "_law_part" Tl) (c_l_lowest:Cl P w K mg base 2 "_law_lowest" ["_law_top","_law_bottom"] X8):Cl P w K mg base 3 "_law_part" ["_law_number","_law_other","_law_size_here"] Vf:=
 d.cl (by trivial) fun _ _ F=>Jj F sc_l_part rfl rfl fun cdv A outer s H E hr=>
  (Zh (Zq 3 sc_l_part.nd (Zr Qu Zg (Zr Ya (Zb 0) (Ji (K5 (Za Zg (Za Zg (Za Zg (Za Zg Ze))))) (Zr Ya (Zr Y6 (Zb 0) Zg) Zg) (fun _ _=>rfl)))))
   (Zh (Zq 4 sc_l_part.nd (Zr Qu Zg (Zr Ya (Zb 1) (Zr J2 (Zr Z5 (Zb 2) (Zb 3)) Zg))))
   (Zh (Qk (Zy (Ye hr.units) (Zr Ya (Zb 4) (Zb 3)) Zg (Zx _)) (Zl (Zq 4 sc_l_part.nd (Zr J2 (Zb 4) Zg))) Qe)
   (Zl (Zt (Z4 c_l_lowest (hr.mono (by decide)) (Za (Zb 4) (Za (Zb 3) Ze))))))))
noncomputable def Uo:List D->M S:=V8 4 8
  (Zu (Z8 4 (Zv Xn (Zc (Zd 0) (Zc (Zn Zs ↑4 (Zd 1)) Zj))))
   (Zu (Wy 5 (T9 Zj))
   (Zu (Xr (X4 (Zc (Zd 1) Zj)) (Yw 6) (Zu (Ca (L5 (Zd 4) (Xd (Zn Zs ↑4 (Zd 6))) (Xd (Zn Qg (Zn Zs ↑4 (Zd 6)) ↑4))) (Gy 4 (Yk (Yw 7) (Yk (Yw 8) (Yk (Yw 9) (Yk (Yw 10) P9))))))
   (Zu (Z8 11 (Qn (Zc (Zv Vf (Zc (Zd 7) (Zc (Zd 8) (Zc (Zd 2) Zj)))) (Zc (Zv Vf (Zc (Zd 9) (Zc (Zd 10) (Zc (Zd 3) Zj)))) Zj))))
   (Jf (W0 5 (tB (Zn Pg (Zd 11) (Zd 5)))) (K8 5 (Zd 11)) Q8))))
   (L7 5))))
def sc_l_people:FnScope ["_law_cell_here","_law_many","_law_width","_law_height","_law_xs","_law_found","_law_k","_law_a","_law_b","_law_c","_law_d","_law_point"] ["_law_cell_here","_law_many","_law_width","_law_height"] (Zi Gd):=⟨rfl,rfl,rfl,by decide +kernel,rfl,by decide +kernel,by decide +kernel⟩
def Dc (d:Dm K mg "_law_people" Gd) (c_l_numbers:Cl P w K mg base 1 "_law_numbers" ["_law_cell_here","_law_many"] Xn) (c_l_part:Cl P w K mg base 3 "_law_part" ["_law_number","_law_other","_law_size_here"] Vf) (z_range:mg "range"=none):Cl P w K mg base 4 "_law_people" ["_law_cell_here","_law_many","_law_width","_law_height"] Uo:=
 d.cl (by trivial) fun _ _ F=>Jj F sc_l_people rfl rfl fun cdv A outer s H E hr=>
  (Zh (Zq 4 sc_l_people.nd (Z4 c_l_numbers (hr.mono (by decide)) (Za (Zb 0) (Za (Zr Z5 Zg (Zb 1)) Ze))))
   (Zh (Jl 5 sc_l_people.nd (Kq Ze))
   (Zh (Yh PassesOwn.never rfl (J3 (by rfl) z_range (Za (Zb 1) Ze)) (Z3 6 sc_l_people.nd) (Zh (Bd (Ki (Zb 4) (Jk (Zr Z5 Zg (Zb 6))) (Jk (Zr Qu (Zr Z5 Zg (Zb 6)) Zg))) (R4 rfl (Ym (Z3 7 sc_l_people.nd) (Ym (Z3 8 sc_l_people.nd) (Ym (Z3 9 sc_l_people.nd) (Ym (Z3 10 sc_l_people.nd) Gx))))))
   (Zh (Zq 11 sc_l_people.nd (Qd (Za (Z4 c_l_part (hr.mono (by decide)) (Za (Zb 7) (Za (Zb 8) (Za (Zb 2) Ze)))) (Za (Z4 c_l_part (hr.mono (by decide)) (Za (Zb 9) (Za (Zb 10) (Za (Zb 3) Ze)))) Ze))))
   (Zl (Qk (Sy 5 (Zy (Zcc (by exact hr.units)) (Zb 11) (Zb 5) (by with_unfolding_all rfl))) (Zl (Kr 5 (Zb 11))) Qe)))))
   (Zl (U9 5)))))
noncomputable def Wk:List D->M S:=V8 1 1
  (Zu (Z8 1 (Uv (Zc (Qn (Zc ↑1 (Zc ↑1 (Zc ↑2 Zj)))) (Zc (Qn (Zc ↑2 (Zc ↑1 (Zc ↑1 Zj)))) (Zc (Qn (Zc ↑1 (Zc ↑2 (Zc ↑1 Zj)))) (Zc (Qn (Zc ↑2 (Zc ↑2 (Zc ↑1 Zj)))) (Zc (Qn (Zc ↑1 (Zc ↑1 (Zc ↑3 Zj)))) Zj)))))))
   (Zu (Z8 1 (Zn Qg (Zd 1) (Uv (Zc (Qn (Zc ↑2 (Zc ↑1 (Zc ↑2 Zj)))) (Zc (Qn (Zc ↑3 (Zc ↑1 (Zc ↑1 Zj)))) (Zc (Qn (Zc ↑3 (Zc ↑2 (Zc ↑0 Zj)))) (Zc (Qn (Zc ↑3 (Zc ↑3 (Zc ↑0 Zj)))) (Zc (Qn (Zc ↑1 (Zc ↑3 (Zc ↑1 Zj)))) Zj))))))))
   (Qv (Zn Jg (Zd 1) (Zn Q5 (Zd 0) ↑10)))))
def sc_l_size:FnScope ["_law_cell_here","_law_some"] ["_law_cell_here"] (Zi Tm):=⟨rfl,rfl,rfl,by decide +kernel,rfl,by decide +kernel,by decide +kernel⟩
def Zaq (d:Dm K mg "_law_size" Tm)  : Cl P w K mg base 1 "_law_size" ["_law_cell_here"] Wk:=
 d.cl (by trivial) fun _ _ F=>Jj F sc_l_size rfl rfl fun cdv A outer s H E hr=>
  (Zh (Zq 1 sc_l_size.nd (K5 (Za (Qd (Za Zg (Za Zg (Za Zg Ze)))) (Za (Qd (Za Zg (Za Zg (Za Zg Ze)))) (Za (Qd (Za Zg (Za Zg (Za Zg Ze)))) (Za (Qd (Za Zg (Za Zg (Za Zg Ze)))) (Za (Qd (Za Zg (Za Zg (Za Zg Ze)))) Ze)))))))
   (Zh (Zq 1 sc_l_size.nd (Zr Qu (Zb 1) (K5 (Za (Qd (Za Zg (Za Zg (Za Zg Ze)))) (Za (Qd (Za Zg (Za Zg (Za Zg Ze)))) (Za (Qd (Za Zg (Za Zg (Za Zg Ze)))) (Za (Qd (Za Zg (Za Zg (Za Zg Ze)))) (Za (Qd (Za Zg (Za Zg (Za Zg Ze)))) Ze))))))))
   (Zl (Zt (Ji (Zb 1) (Zr Ya (Zb 0) Zg) (fun _ _=>rfl))))))
noncomputable def Up:List D->M S:=V8 3 0
  (Qv (Zv X8 (Zc (Zn Qg (Zn Zs 0[0]! 1[1]!) (Zn Zs (Zn Zs (Zd 2) 1[0]!) 0[1]!)) (Zc (Zn Zs 0[1]! 1[1]!) Zj))))
def Zdn:FnScope ["_law_one","_law_other","_law_sign"] ["_law_one","_law_other","_law_sign"] (Zi Br):=⟨rfl,rfl,rfl,by decide +kernel,rfl,by decide +kernel,by decide +kernel⟩
def Zdo (d:Dm K mg "_law_sum" Br) (c_l_lowest:Cl P w K mg base 2 "_law_lowest" ["_law_top","_law_bottom"] X8):Cl P w K mg base 3 "_law_sum" ["_law_one","_law_other","_law_sign"] Up:=
 d.cl (by trivial) fun _ _ F=>Jj F Zdn rfl rfl fun cdv A outer s H E hr=>
  (Zl (Zt (Z4 c_l_lowest (hr.mono (by decide)) (Za (Zr Qu (Zr Z5 (Zz (Zb 0)) (Zz (Zb 1))) (Zr Z5 (Zr Z5 (Zb 2) (Zz (Zb 1))) (Zz (Zb 0)))) (Za (Zr Z5 (Zz (Zb 0)) (Zz (Zb 1))) Ze)))))
noncomputable def Yc:List D->M S:=V8 1 1
  (Zu (Jf (tO (tN (tB (D0 "tuple" (Zd 0)))) (tB (Zn Ww (Jx Vz (Zc (Zd 0) Zj)) ↑2))) (Qv (eC (.bl false))) Q8)
   (Zu (Xr (Xi (Zd 0)) (Yw 1) (Jf (tO (tN (tB (D0 "int" (Zd 1)))) (tB (D0 "bool" (Zd 1)))) (Qv (eC (.bl false))) Q8))
   (Qv (Rq (Zn Rp 0[1]! ↑0) (Zn Jw (Zv Ka (Zc 0[0]! (Zc 0[1]! Zj))) ↑1)))))
def sc_l_is_number:FnScope ["_law_found","_law_part_here"] ["_law_found"] (Zi Vw):=⟨rfl,rfl,rfl,by decide +kernel,rfl,by decide +kernel,by decide +kernel⟩
def Ts (d:Dm K mg "_law_is_number" Vw) (c_l_common:Cl P w K mg base 1 "_law_common" ["_law_one","_law_other"] Ka) (z_isinstance:mg "isinstance"=none) (z_tuple:mg "tuple"=none) (z_len:mg "len"=none) (z_int:mg "int"=none) (z_bool:mg "bool"=none):Cl P w K mg base 2 "_law_is_number" ["_law_found"] Yc:=
 d.cl (by trivial) fun _ _ F=>Jj F sc_l_is_number rfl rfl fun cdv A outer s H E hr=>
  (Zh (Qk ((Kl (X2 (Yb (Xq "tuple" (by rfl) z_isinstance z_tuple (by rfl) (by rfl) (Zb 0)))) (Kf (Zy (Wz hr.units) (Ql U5 (by rfl) z_len (by rfl) (Za (Zb 0) Ze)) Zg (Zx _))))).pt (Zl (Zt Gu)) Qe)
   (Zh (Yh PassesOwn.never rfl (Yq (Zb 0)) (Z3 1 sc_l_is_number.nd) (Zl (Qk ((Kl (X2 (Yb (Xq "int" (by rfl) z_isinstance z_int (by rfl) (by rfl) (Zb 1)))) (Kf (Yb (Xq "bool" (by rfl) z_isinstance z_bool (by rfl) (by rfl) (Zb 1)))))).pt (Zl (Zt Gu)) Qe)))
   (Zl (Zt (Pa (X7 P8 (Zz (Zb 0)) Zg (Zx _)) (Sq (X7 (Ye hr.units) (Z4 c_l_common (hr.mono (by decide)) (Za (Zz (Zb 0)) (Za (Zz (Zb 0)) Ze))) Zg (Zx _))))))))
noncomputable def Js:List D->M S:=V8 2 0
  (Qv (Zn T7 (Zn Zs 0[0]! 1[1]!) (Zn Zs 1[0]! 0[1]!)))
def Zar:FnScope ["_law_one","_law_other"] ["_law_one","_law_other"] (Zi Tn):=⟨rfl,rfl,rfl,by decide +kernel,rfl,by decide +kernel,by decide +kernel⟩
def Zas (d:Dm K mg "_law_less" Tn)  : Cl P w K mg base 1 "_law_less" ["_law_one","_law_other"] Js:=
 d.cl (by trivial) fun _ _ F=>Jj F Zar rfl rfl fun cdv A outer s H E hr=>
  (Zl (Zt (X7 Gv (Zr Z5 (Zz (Zb 0)) (Zz (Zb 1))) (Zr Z5 (Zz (Zb 1)) (Zz (Zb 0))) (Zx _))))
noncomputable def Kb:List D->M S:=V8 3 7
  (Zu (Wy 3 (T9 Zj))
   (Zu (Xr (Xi (Uv (Zc ↑1 (Zc (F6 S0 ↑1) Zj)))) (Yw 4) (Xr (R7 (Zc (Zn Vs (Zn Vs ↑0 (Zd 2)) ↑9) (Zc (Zn Qg (Zd 2) ↑10) Zj))) (Yw 5) (Zu (Z8 6 (Zv Up (Zc (Qn (Zc (Zn Zs ↑2 (Zd 5)) (Zc ↑1 Zj))) (Zc (Zd 1) (Zc (Zd 4) Zj)))))
   (Zu (Z8 7 (Zv Up (Zc (Zd 6) (Zc (Zd 0) (Zc (F6 S0 ↑1) Zj)))))
   (Jf (tB (Zn Zi9 (Jx Vt (Zc 7[0]! Zj)) (Zn Zs (Zd 2) 7[1]!))) (K8 3 (Zd 7)) Q8)))))
   (Zu (Wy 8 (T9 Zj))
   (Bh 3 (Zu (Xr (Xi (Zd 3)) (Yw 7) (Zu (Z8 9 (Sx 8 (Jx Vz (Zc (U7 (Vk (Xi (Zd 8)) 1 [7] (Yw 0) (tB (Zv Js (Zc (Zd 0) (Zc (Zd 1) Zj)))) (Zd 0))) Zj))))
   (Zde 8 (Zd 9) (Zd 7))))
   (L7 8))))))
def sc_l_steps:FnScope ["_law_here","_law_there","_law_reach","_law_found","_law_sign","_law_k","_law_image","_law_step","_law_rising","_law_place"] ["_law_here","_law_there","_law_reach"] (Zi K2):=⟨rfl,rfl,rfl,by decide +kernel,rfl,by decide +kernel,by decide +kernel⟩
def Fh (d:Dm K mg "_law_steps" K2) (c_l_sum:Cl P w K mg base 3 "_law_sum" ["_law_one","_law_other","_law_sign"] Up) (c_l_less:Cl P w K mg base 1 "_law_less" ["_law_one","_law_other"] Js) (z_range:mg "range"=none) (z_abs:mg "abs"=none) (z_len:mg "len"=none):Cl P w K mg base 4 "_law_steps" ["_law_here","_law_there","_law_reach"] Kb:=
 d.cl (by trivial) fun _ _ F=>Jj F sc_l_steps rfl rfl fun cdv A outer s H E hr=>
  (Zh (Jl 3 sc_l_steps.nd (Kq Ze))
   (Zh (Yh PassesOwn.never rfl (Yq (K5 (Za Zg (Za (Ch Pj Zg) Ze)))) (Z3 4 sc_l_steps.nd) (Zl (Yh PassesOwn.never rfl (En (by rfl) z_range (Za (Zr J2 (Zr J2 Zg (Zb 2)) Zg) (Za (Zr Qu (Zb 2) Zg) Ze))) (Z3 5 sc_l_steps.nd) (Zh (Zq 6 sc_l_steps.nd (Z4 c_l_sum (hr.mono (by decide)) (Za (Qd (Za (Zr Z5 Zg (Zb 5)) (Za Zg Ze))) (Za (Zb 1) (Za (Zb 4) Ze)))))
   (Zh (Zq 7 sc_l_steps.nd (Z4 c_l_sum (hr.mono (by decide)) (Za (Zb 6) (Za (Zb 0) (Za (Ch Pj Zg) Ze)))))
   (Zl (Qk (Zy Zbz (Ql U4 (by rfl) z_abs (by rfl) (Za (Zz (Zb 7)) Ze)) (Zr Z5 (Zb 2) (Zz (Zb 7))) (Zx _)) (Zl (Kr 3 (Zb 7))) Qe)))))))
   (Zh (Jl 8 sc_l_steps.nd (Kq Ze))
   (G9 3 (Zh (Yh PassesOwn.never rfl (Yq (Zb 3)) (Z3 7 sc_l_steps.nd) (Zh (Zq 9 sc_l_steps.nd (F5 8 (Ql U5 (by rfl) z_len (by rfl) (Za (Pf (Ev (Nc:=["_law_one","_law_step"]) rfl (Ue (fun y hy hf=>Xy (Rt (sc:=Zi K2) (by decide +kernel) y hy hf))) (Zfx (sc:=Zi K2) rfl rfl (by decide +kernel) (Rt (by decide +kernel)) (fun y hy hf=>Xy (Rt (sc:=Zi K2) (by decide +kernel) y hy hf)) rfl (R6 (N:=["_law_here","_law_there","_law_reach","_law_found","_law_sign","_law_k","_law_image","_law_step","_law_rising","_law_place"]) rfl (by decide +kernel))) rfl (by decide +kernel) (by decide +kernel) (K0 (by decide)) (Yq (Zb 8)) (fun s3 H3 C ex=>Z3 0 (show(["_law_one","_law_step"]:List Str).Nodup by decide +kernel)) (fun s3 H3 C ex=>(Yb (Z4 c_l_less (hr.mono (by decide)) (Za (Zb 0) (Za (Zb 1) Ze))))) (fun s3 H3 C ex=>(Zb 0)))) Ze))))
   (Zl (Zgi 8 (Zb 9) (Zb 7)))))
   (Zl (U9 8)))))))
noncomputable def K4:List D->M S:=V8 6 3
  (Zu (Jf (tO (tN (tB (D0 "tuple" (Zd 5)))) (tO (tB (Zn Ww (Jx Vz (Zc (Zd 5) Zj)) ↑4)) (tO (tN (tB (D0 "str" 5[2]!))) (tN (tB (D0 "tuple" 5[3]!)))))) (Qv (eC (.bl false))) Q8)
   (Zu (Jf (tO (tN (tB (Jx O0 (Zc (U7 (Ut (Xi (Zn Qg (L5 (Zd 5) Kp (Xd ↑2)) 5[3]!)) 1 [] (Yw 0) (Zv Yc (Zc (Zd 0) Zj)))) Zj)))) (tB (Zn Ww (Jx Vz (Zc 5[3]! Zj)) ↑2))) (Qv (eC (.bl false))) Q8)
   (Zu (Ca (Zv F_walk (Zc (Zd 0) (Zc (Zd 1) (Zc (Zn Jg (Zd 1) (Zd 2)) (Zc (L5 (Zd 5) Kp (Xd ↑2)) (Zc (Zd 4) Zj)))))) (Gy 3 (Yk (Yw 6) (Yk (Yw 7) (Yk (Yw 8) P9)))))
   (Zu (Jf (tA (tB (Zn Jw (Zd 6) ↑"end")) (tB (Zn Jw (Zd 7) (Zn Jg (Zd 1) (Zd 3))))) (Z8 6 ↑"seen") Q8)
   (Qv (Zn Jw (L5 (Zd 5) (Xd ↑2) Kp) (Qn (Zc (Zd 6) (Zc (Zd 7) Zj)))))))))
def sc_l_right:FnScope ["_law_hall_here","_law_people_here","_law_one","_law_other","_law_most","_law_row","_law_word","_law_where","_law_turns"] ["_law_hall_here","_law_people_here","_law_one","_law_other","_law_most","_law_row"] (Zi Pt):=⟨rfl,rfl,rfl,by decide +kernel,rfl,by decide +kernel,by decide +kernel⟩
def Fi (d:Dm K mg "_law_right" Pt) (c_l_is_number:Cl P w K mg base 2 "_law_is_number" ["_law_found"] Yc) (c_walk:Cl P w K mg base 7 "walk" ["hall","people","point","step","most"] F_walk) (z_isinstance:mg "isinstance"=none) (z_tuple:mg "tuple"=none) (z_len:mg "len"=none) (z_str:mg "str"=none) (z_all:mg "all"=none):Cl P w K mg base 8 "_law_right" ["_law_hall_here","_law_people_here","_law_one","_law_other","_law_most","_law_row"] K4:=
 d.cl (by trivial) fun _ _ F=>Jj F sc_l_right rfl rfl fun cdv A outer s H E hr=>
  (Zh (Qk ((Kl (X2 (Yb (Xq "tuple" (by rfl) z_isinstance z_tuple (by rfl) (by rfl) (Zb 5)))) (Kl (Zy (Wz hr.units) (Ql U5 (by rfl) z_len (by rfl) (Za (Zb 5) Ze)) Zg (Zx _)) (Kl (X2 (Yb (Xq "str" (by rfl) z_isinstance z_str (by rfl) (by rfl) (Zz (Zb 5))))) (Kf (X2 (Yb (Xq "tuple" (by rfl) z_isinstance z_tuple (by rfl) (by rfl) (Zz (Zb 5)))))))))).pt (Zl (Zt Gu)) Qe)
   (Zh (Qk ((Kl (X2 (Yb (Ql (Zb7 rfl) (by rfl) z_all (by rfl) (Za (Pf (U8 (Nc:=["_law_part_here"]) rfl (closureFor_none (by decide +kernel)) (Zl6 rfl (by decide +kernel)) rfl (by decide +kernel) (by decide +kernel) (K0 (by decide)) (Yq (Zr Qu (Ki (Zb 5) K7 (Jk Zg)) (Zz (Zb 5)))) (fun s3 H3 C ex=>Z3 0 (show(["_law_part_here"]:List Str).Nodup by decide +kernel)) (fun s3 H3 C ex=>by exact(Z4 c_l_is_number (hr.mono (by decide)) (Za (Zb 0) Ze))))) Ze)))) (Kf (Zy (Wz hr.units) (Ql U5 (by rfl) z_len (by rfl) (Za (Zz (Zb 5)) Ze)) Zg (Zx _))))).pt (Zl (Zt Gu)) Qe)
   (Zh (Bd (Z4 c_walk (hr.mono (by decide)) (Za (Zb 0) (Za (Zb 1) (Za (Ji (Zb 1) (Zb 2) (fun _ _=>rfl)) (Za (Ki (Zb 5) K7 (Jk Zg)) (Za (Zb 4) Ze)))))) (R4 rfl (Ym (Z3 6 sc_l_right.nd) (Ym (Z3 7 sc_l_right.nd) (Ym (Z3 8 sc_l_right.nd) Gx)))))
   (Zh (Qk ((V7 (Zy (Ye hr.units) (Zb 6) Qt (Zx _)) (V0 (Zy (Ye hr.units) (Zb 7) (Ji (Zb 1) (Zb 3) (fun _ _=>rfl)) (Zx _))))).pt (Zl (Zq 6 sc_l_right.nd Qt)) Qe)
   (Zl (Zt (X7 (Ye hr.units) (Ki (Zb 5) (Jk Zg) K7) (Qd (Za (Zb 6) (Za (Zb 7) Ze))) (Zx _))))))))
noncomputable def Mq:List D->M S:=V8 1 14
  (Zu (Ca (Zv Wk (Zc (Zv Q2 (Zc (Zd 0) (Zc ↑0 Zj))) Zj)) (Gy 3 (Yk (Yw 1) (Yk (Yw 2) (Yk (Yw 3) P9)))))
   (Zu (Z8 4 (Zv Nt (Zc (Zv Q2 (Zc (Zd 0) (Zc ↑1 Zj))) (Zc (Zd 1) (Zc (Zd 2) Zj)))))
   (Zu (Jf (tB (Zn Jw (Zn Q5 (Zn Yv (Zv Q2 (Zc (Zd 0) (Zc ↑3 Zj))) ↑4) ↑2) ↑1)) (Z8 4 (Qn (Zc (Zd 1) (Zc (Zd 2) (Zc (Zco 4[2]!) Zj))))) Q8)
   (Zu (Z8 5 (Zv Uo (Zc (Zv Q2 (Zc (Zd 0) (Zc ↑2 Zj))) (Zc (Zn Qg ↑1 (Zn Q5 (Zv Q2 (Zc (Zd 0) (Zc ↑3 Zj))) ↑4)) (Zc (Zd 1) (Zc (Zd 2) Zj))))))
   (Zu (Z8 6 (Zn Q5 (Zv Q2 (Zc (Zd 0) (Zc ↑4 Zj))) (Jx Vz (Zc (Zd 5) Zj))))
   (Zu (Z8 7 (Zn Q5 (Zn Yv (Zv Q2 (Zc (Zd 0) (Zc ↑4 Zj))) ↑8) (Jx Vz (Zc (Zd 5) Zj))))
   (Zu (Z8 8 (Zn Jg (Uv (Zc ↑1 (Zc ↑2 (Zc ↑2 (Zc ↑3 (Zc ↑2 (Zc ↑5 Zj))))))) (Zn Q5 (Zv Q2 (Zc (Zd 0) (Zc ↑5 Zj))) ↑6)))
   (Zu (Z8 3 (Zn Qg (Zd 3) (Zn Q5 (Zn Yv (Zv Q2 (Zc (Zd 0) (Zc ↑5 Zj))) ↑6) ↑4)))
   (Zu (Wy 9 (T9 Zj))
   (Zu (Xr (Xi (Zv Kb (Zc (Zn Jg (Zn Jg (Zd 5) (Zd 6)) ↑0) (Zc (Zn Jg (Zn Jg (Zd 5) (Zd 7)) ↑0) (Zc (Zd 8) Zj))))) (Yw 10) (Xr (Xi (Zv Kb (Zc (Zn Jg (Zn Jg (Zd 5) (Zd 6)) ↑1) (Zc (Zn Jg (Zn Jg (Zd 5) (Zd 7)) ↑1) (Zc (Zd 8) Zj))))) (Yw 11) (Jf (tO (tB (Zn Ww (Zd 10) (Qn (Zc ↑0 (Zc ↑1 Zj))))) (tB (Zn Ww (Zd 11) (Qn (Zc ↑0 (Zc ↑1 Zj)))))) (K8 9 (Qn (Zc (Zd 10) (Zc (Zd 11) Zj)))) Q8)))
   (Zu (Z8 12 (Jx Zb2 (Zc (Zd 5) Zj)))
   (Zu (Wy 13 (Rc F_images (Zc (Zd 4) (Zc (Zd 12) (Zc (Zd 6) (Zc (Zd 7) (Zc (Zd 3) (Zc (Zd 8) Zj))))))))
   (Bh 9 (Zu (Jf (W0 13 (tO (tN (tB (D0 "list" (Zd 13)))) (tB (Zn Ww (U7 (Ut (Xi (Zd 13)) 1 [] (Yw 0) (L5 (Zd 0) Kp (Xd ↑2)))) (Zd 9))))) (Qv (eC (.bl false))) Q8)
   (Zu (Jf (W0 13 (tN (tB (Jx O0 (Zc (U7 (Ut (Xi (Zd 13)) 1 [4,5,6,7,3] (Yw 0) (Zv K4 (Zc (Zd 1) (Zc (Zd 2) (Zc (Zd 3) (Zc (Zd 4) (Zc (Zd 5) (Zc (Zd 0) Zj))))))))) Zj))))) (Qv (eC (.bl false))) Q8)
   (Zu (Z8 14 (U7 (El 13)))
   (Zu (K8 13 (eC .non))
   (Zu (Zka 13)
   (Qv (Rq (Zn Jw (Zv F_images (Zc (Zd 4) (Zc (Zd 12) (Zc (Zd 6) (Zc (Zd 7) (Zc (Zd 3) (Zc (Zd 8) Zj))))))) (Zd 14)) (Zn Jw (Zd 12) (Zd 5))))))))))))))))))))))
def sc_law:FnScope ["_law_script","_law_width","_law_height","_law_most","_law_hall_here","_law_people_here","_law_one","_law_other","_law_reach","_law_due","_law_dx","_law_dy","_law_handed","_law_found","_law_kept"] ["_law_script"] (Zi No):=⟨rfl,rfl,rfl,by decide +kernel,rfl,by decide +kernel,by decide +kernel⟩
def Zkc {f:Addr}{fd:FuncData} (F:Fun K "law" "law" No f fd) (c_l_size:Cl P w K mg base 1 "_law_size" ["_law_cell_here"] Wk) (c_l_cell:Cl P w K mg base 1 "_law_cell" ["_law_script","_law_k"] Q2) (c_l_hall:Cl P w K mg base 2 "_law_hall" ["_law_cell_here","_law_width","_law_height"] Nt) (c_l_people:Cl P w K mg base 4 "_law_people" ["_law_cell_here","_law_many","_law_width","_law_height"] Uo) (c_l_steps:Cl P w K mg base 4 "_law_steps" ["_law_here","_law_there","_law_reach"] Kb) (c_images:Cl P w K mg base 7 "images" ["hall","people","one","other","most","reach"] F_images) (c_l_right:Cl P w K mg base 8 "_law_right" ["_law_hall_here","_law_people_here","_law_one","_law_other","_law_most","_law_row"] K4) (z_len:mg "len"=none) (z_list:mg "list"=none) (z_isinstance:mg "isinstance"=none) (z_all:mg "all"=none):FnOk P w K mg base Yd 9 f fd ["_law_script"] (Sr K Mq):=
 Jj F sc_law rfl rfl fun cdv A outer s H E hr=>
  (Zh (Bd (Z4 c_l_size (hr.mono (by decide)) (Za (Z4 c_l_cell (hr.mono (by decide)) (Za (Zb 0) (Za Zg Ze))) Ze)) (R4 rfl (Ym (Z3 1 sc_law.nd) (Ym (Z3 2 sc_law.nd) (Ym (Z3 3 sc_law.nd) Gx)))))
   (Zh (Zq 4 sc_law.nd (Z4 c_l_hall (hr.mono (by decide)) (Za (Z4 c_l_cell (hr.mono (by decide)) (Za (Zb 0) (Za Zg Ze))) (Za (Zb 1) (Za (Zb 2) Ze)))))
   (Zh (Qk (Zy (Ye hr.units) (Zr Ya (Zr Y6 (Z4 c_l_cell (hr.mono (by decide)) (Za (Zb 0) (Za Zg Ze))) Zg) Zg) Zg (Zx _)) (Zl (Zq 4 sc_law.nd (Qd (Za (Zb 1) (Za (Zb 2) (Za (Zjm (Zz (Zb 4))) Ze)))))) Qe)
   (Zh (Zq 5 sc_law.nd (Z4 c_l_people (hr.mono (by decide)) (Za (Z4 c_l_cell (hr.mono (by decide)) (Za (Zb 0) (Za Zg Ze))) (Za (Zr Qu Zg (Zr Ya (Z4 c_l_cell (hr.mono (by decide)) (Za (Zb 0) (Za Zg Ze))) Zg)) (Za (Zb 1) (Za (Zb 2) Ze))))))
   (Zh (Zq 6 sc_law.nd (Zr Ya (Z4 c_l_cell (hr.mono (by decide)) (Za (Zb 0) (Za Zg Ze))) (Ql U5 (by rfl) z_len (by rfl) (Za (Zb 5) Ze))))
   (Zh (Zq 7 sc_law.nd (Zr Ya (Zr Y6 (Z4 c_l_cell (hr.mono (by decide)) (Za (Zb 0) (Za Zg Ze))) Zg) (Ql U5 (by rfl) z_len (by rfl) (Za (Zb 5) Ze))))
   (Zh (Zq 8 sc_law.nd (Ji (K5 (Za Zg (Za Zg (Za Zg (Za Zg (Za Zg (Za Zg Ze))))))) (Zr Ya (Z4 c_l_cell (hr.mono (by decide)) (Za (Zb 0) (Za Zg Ze))) Zg) (fun _ _=>rfl)))
   (Zh (Zq 3 sc_law.nd (Zr Qu (Zb 3) (Zr Ya (Zr Y6 (Z4 c_l_cell (hr.mono (by decide)) (Za (Zb 0) (Za Zg Ze))) Zg) Zg)))
   (Zh (Jl 9 sc_law.nd (Kq Ze))
   (Zh (Yh PassesOwn.never rfl (Yq (Z4 c_l_steps (hr.mono (by decide)) (Za (Zz (Ji (Zb 5) (Zb 6) (fun _ _=>rfl))) (Za (Zz (Ji (Zb 5) (Zb 7) (fun _ _=>rfl))) (Za (Zb 8) Ze))))) (Z3 10 sc_law.nd) (Zl (Yh PassesOwn.never rfl (Yq (Z4 c_l_steps (hr.mono (by decide)) (Za (Zz (Ji (Zb 5) (Zb 6) (fun _ _=>rfl))) (Za (Zz (Ji (Zb 5) (Zb 7) (fun _ _=>rfl))) (Za (Zb 8) Ze))))) (Z3 11 sc_law.nd) (Zl (Qk ((Kl (Zy (Wz hr.units) (Zb 10) (Qd (Za Zg (Za Zg Ze))) (Zx _)) (Kf (Zy (Wz hr.units) (Zb 11) (Qd (Za Zg (Za Zg Ze))) (Zx _))))).pt (Zl (Kr 9 (Qd (Za (Zb 10) (Za (Zb 11) Ze))))) Qe)))))
   (Zh (Zq 12 sc_law.nd (So Zfo (by rfl) z_list (by rfl) (Za (Zb 5) Ze)))
   (Zh (Jl 13 sc_law.nd (Mo c_images (hr.mono (by decide)) (Za (Zb 4) (Za (Zb 12) (Za (Zb 6) (Za (Zb 7) (Za (Zb 3) (Za (Zb 8) Ze))))))))
   (G9 9 (Zh (Qk (Sy 13 ((Kl (X2 (Yb (Xq "list" (by rfl) z_isinstance z_list (by rfl) (by rfl) (Zb 13)))) (Kf (Zy (Wz hr.units) (Pf (U8 (Nc:=["_law_row"]) rfl (closureFor_none (by decide +kernel)) (Zl6 rfl (by decide +kernel)) rfl (by decide +kernel) (by decide +kernel) (K0 (by decide)) (Yq (Zb 13)) (fun s3 H3 C ex=>Z3 0 (show(["_law_row"]:List Str).Nodup by decide +kernel)) (fun s3 H3 C ex=>(Ki (Zb 0) K7 (Jk Zg))))) (Zb 9) (Zx _))))).pt) (Zl (Zt Gu)) Qe)
   (Zh (Qk (Sy 13 (X2 (Yb (Ql (Zb7 rfl) (by rfl) z_all (by rfl) (Za (Pf (U8 (Nc:=["_law_row","_law_hall_here","_law_people_here","_law_one","_law_other","_law_most"]) rfl (Ue (fun y hy hf=>Xy (Rt (sc:=Zi No) (by decide +kernel) y hy hf))) (Zfx (sc:=Zi No) rfl rfl (by decide +kernel) (Rt (by decide +kernel)) (fun y hy hf=>Xy (Rt (sc:=Zi No) (by decide +kernel) y hy hf)) rfl (R6 (N:=["_law_script","_law_width","_law_height","_law_most","_law_hall_here","_law_people_here","_law_one","_law_other","_law_reach","_law_due","_law_dx","_law_dy","_law_handed","_law_found","_law_kept"]) rfl (by decide +kernel))) rfl (by decide +kernel) (by decide +kernel) (K0 (by decide)) (Yq (Zb 13)) (fun s3 H3 C ex=>Z3 0 (show(["_law_row","_law_hall_here","_law_people_here","_law_one","_law_other","_law_most"]:List Str).Nodup by decide +kernel)) (fun s3 H3 C ex=>by exact(Z4 c_l_right (hr.mono (by decide)) (Za (Zb 1) (Za (Zb 2) (Za (Zb 3) (Za (Zb 4) (Za (Zb 5) (Za (Zb 0) Ze)))))))))) Ze))))) (Zl (Zt Gu)) Qe)
   (Zh (Zq 14 sc_law.nd (Pf (O4 13 (by rfl) z_list (by rfl))))
   (Zh (Kr 13 X6)
   (Zh (Zgj 13)
   (Zl (Zt (Pa (X7 (Ye hr.units) (Z4 c_images (hr.mono (by decide)) (Za (Zb 4) (Za (Zb 12) (Za (Zb 6) (Za (Zb 7) (Za (Zb 3) (Za (Zb 8) Ze))))))) (Zb 14) (Zx _)) (Sq (X7 (Ye hr.units) (Zb 12) (Zb 5) (Zx _))))))))))))))))))))))))
end
def all_mk {l:PySem.W.OpenLaw}{w:World}{K:PySem.W.Frag}{h:Heap}{mg:Str->Option Value}{fa:Addr}(X:K.In h)(G:h.Ns mainGlobals mg) (hfa:mg "law"=some (.ref fa))
  (d_common_divisor:Dm K mg "common_divisor" J9)
  (d_amount:Dm K mg "amount" Te)
  (d_below:Dm K mg "below" Bp)
  (d_is_whole:Dm K mg "is_whole" W9)
  (d_is_from_to:Dm K mg "is_from_to" Uh)
  (d_outward_face:Dm K mg "outward_face" Vd)
  (d_faces:Dm K mg "faces" Bq)
  (d_is_corner:Dm K mg "is_corner" Jb)
  (d_square_of:Dm K mg "square_of" Wd)
  (d_whole_time_of:Dm K mg "whole_time_of" Km)
  (d_time_to:Dm K mg "time_to" Ps)
  (d_person_ahead:Dm K mg "person_ahead" Ve)
  (d_face_ahead:Dm K mg "face_ahead" Ui)
  (d_thing_at:Dm K mg "thing_at" Ga)
  (d_how_it_ends:Dm K mg "how_it_ends" Vv)
  (d_pass_line:Dm K mg "pass_line" We)
  (d_walk_on:Dm K mg "walk_on" Qy)
  (d_walk:Dm K mg "walk" E7)
  (d_parts_to_images:Dm K mg "parts_to_images" Q6)
  (d_steps_to_images:Dm K mg "steps_to_images" Jp)
  (d_is_way:Dm K mg "is_way" Tf)
  (d_images:Dm K mg "images" Xl)
  (d_l_cell:Dm K mg "_law_cell" Tg)
  (d_l_numbers:Dm K mg "_law_numbers" Wf)
  (d_l_common:Dm K mg "_law_common" Gb)
  (d_l_lowest:Dm K mg "_law_lowest" Gc)
  (d_l_side:Dm K mg "_law_side" Ti)
  (d_l_hall:Dm K mg "_law_hall" Tj)
  (d_l_part:Dm K mg "_law_part" Tl)
  (d_l_people:Dm K mg "_law_people" Gd)
  (d_l_size:Dm K mg "_law_size" Tm)
  (d_l_sum:Dm K mg "_law_sum" Br)
  (d_l_is_number:Dm K mg "_law_is_number" Vw)
  (d_l_less:Dm K mg "_law_less" Tn)
  (d_l_steps:Dm K mg "_law_steps" K2)
  (d_l_right:Dm K mg "_law_right" Pt)
  (d_law:Dm K mg "law" No)
  {C_Floor C_Track:Addr}
  (ya_Floor:PySem.W.nsIn K mainGlobals "Floor"=some (some (.ref C_Floor)))
  (ya_Track:PySem.W.nsIn K mainGlobals "Track"=some (some (.ref C_Track)))
  (e_Floor_init:Mm K C_Floor "__init__" "Floor.__init__" Kx)
  (e_people_at:Mm K C_Floor "people_at" "Floor.people_at" Wg)
  (e_faces_at:Mm K C_Floor "faces_at" "Floor.faces_at" Uj)
  (e_Track_init:Mm K C_Track "__init__" "Track.__init__" Uk)
  (e_line_ahead:Mm K C_Track "line_ahead" "Track.line_ahead" Ul)
  (e_place_at:Mm K C_Track "place_at" "Track.place_at" Ge)
  (e_time_at:Mm K C_Track "time_at" "Track.time_at" Pu)
  (e_go_on:Mm K C_Track "go_on" "Track.go_on" Bs)
  (e_turn_back:Mm K C_Track "turn_back" "Track.turn_back" Wh)
  (og_Floor:PySem.W.plainGet K C_Floor Str.empty=true) (oh_Floor:PySem.W.hasDictIn K C_Floor=true) (oo_Floor:PySem.W.plainOver K C_Floor=true) (os_Floor:PySem.W.findIn K (.ref C_Floor) "__setattr__"=some (some (.builtin "object.__setattr__"))) (om_Floor:PySem.W.makesIn K C_Floor=true) (op_Floor:PySem.W.keepIn K (.ref C_Floor)=true)
  (on_Floor_hall:PySem.W.findIn K (.ref C_Floor) "hall"=some none)
  (on_Floor_known_faces:PySem.W.findIn K (.ref C_Floor) "known_faces"=some none)
  (on_Floor_by_square:PySem.W.findIn K (.ref C_Floor) "by_square"=some none)
  (og_Track:PySem.W.plainGet K C_Track Str.empty=true) (oh_Track:PySem.W.hasDictIn K C_Track=true) (oo_Track:PySem.W.plainOver K C_Track=true) (os_Track:PySem.W.findIn K (.ref C_Track) "__setattr__"=some (some (.builtin "object.__setattr__"))) (om_Track:PySem.W.makesIn K C_Track=true) (op_Track:PySem.W.keepIn K (.ref C_Track)=true)
  (on_Track_begin:PySem.W.findIn K (.ref C_Track) "begin"=some none)
  (on_Track_square:PySem.W.findIn K (.ref C_Track) "square"=some none)
  (on_Track_heading:PySem.W.findIn K (.ref C_Track) "heading"=some none)
  (on_Track_due:PySem.W.findIn K (.ref C_Track) "due"=some none)
  (on_Track_lap:PySem.W.findIn K (.ref C_Track) "lap"=some none)
  (z_abs:PySem.W.nsIn K mainGlobals "abs"=some none)
  (z_isinstance:PySem.W.nsIn K mainGlobals "isinstance"=some none)
  (z_int:PySem.W.nsIn K mainGlobals "int"=some none)
  (z_bool:PySem.W.nsIn K mainGlobals "bool"=some none)
  (z_any:PySem.W.nsIn K mainGlobals "any"=some none)
  (z_zip:PySem.W.nsIn K mainGlobals "zip"=some none)
  (z_max:PySem.W.nsIn K mainGlobals "max"=some none)
  (z_min:PySem.W.nsIn K mainGlobals "min"=some none)
  (z_len:PySem.W.nsIn K mainGlobals "len"=some none)
  (z_list:PySem.W.nsIn K mainGlobals "list"=some none)
  (z_range:PySem.W.nsIn K mainGlobals "range"=some none)
  (z_sorted:PySem.W.nsIn K mainGlobals "sorted"=some none)
  (z_tuple:PySem.W.nsIn K mainGlobals "tuple"=some none)
  (z_str:PySem.W.nsIn K mainGlobals "str"=some none)
  (z_all:PySem.W.nsIn K mainGlobals "all"=some none)
  {at_NO_STEP:Addr} (yg_NO_STEP:PySem.W.nsIn K mainGlobals "NO_STEP"=some (some (.ref at_NO_STEP))) (yb_NO_STEP:Mf K at_NO_STEP 0 1 0 1=true)
  : ∃fd:FuncData,(∀(s:Shared) (v:Value),BindsTo s fd ⟨[v],[]⟩ [("_law_script", v)])/\∀base:Heap,K.In base->base.Ns mainGlobals mg->FnOk l.prog w K mg base Yd 9 fa fd ["_law_script"] (Sr K Mq):=by
 obtain⟨_,fdL,FL,mL⟩:=d_law.ex
 obtain⟨oc,od,kV,dc,pm,an,cd,ct,sl,rfl,lk,hcd⟩:=FL.ex
 cases hfa.symm.trans mL
 refine⟨PySem.W.fnOf "law" "law" (Vh No) (Y5 No) (Zi No) .none kV dc pm an cd ct,fun s v=>.of_eq rfl,fun base _ _=>?_⟩
 have z_abs:=PySem.W.mg_none_of X G z_abs
 have z_isinstance:=PySem.W.mg_none_of X G z_isinstance
 have z_int:=PySem.W.mg_none_of X G z_int
 have z_bool:=PySem.W.mg_none_of X G z_bool
 have z_any:=PySem.W.mg_none_of X G z_any
 have z_zip:=PySem.W.mg_none_of X G z_zip
 have z_max:=PySem.W.mg_none_of X G z_max
 have z_min:=PySem.W.mg_none_of X G z_min
 have z_len:=PySem.W.mg_none_of X G z_len
 have z_list:=PySem.W.mg_none_of X G z_list
 have z_range:=PySem.W.mg_none_of X G z_range
 have z_sorted:=PySem.W.mg_none_of X G z_sorted
 have z_tuple:=PySem.W.mg_none_of X G z_tuple
 have z_str:=PySem.W.mg_none_of X G z_str
 have z_all:=PySem.W.mg_none_of X G z_all
 have c_common_divisor:=Np (P:=l.prog) (w:=w) (base:=base) d_common_divisor z_abs
 have c_amount:=Zaf d_amount c_common_divisor
 have c_below:=Zdg (P:=l.prog) (w:=w) (base:=base) d_below
 have c_is_whole:=C2 (P:=l.prog) (w:=w) (base:=base) d_is_whole z_isinstance z_int z_bool
 have c_is_from_to:=Ld d_is_from_to c_is_whole
 have c_outward_face:=Rx (P:=l.prog) (w:=w) (base:=base) d_outward_face
 have c_faces:=Zdh d_faces c_outward_face
 have c_is_corner:=Bt d_is_corner c_is_from_to z_any
 have c_square_of:=Bv (P:=l.prog) (w:=w) (base:=base) d_square_of
 have c_whole_time_of:=Pv (P:=l.prog) (w:=w) (base:=base) d_whole_time_of z_zip z_abs z_max
 have tcT:TkC K C_Track:=⟨⟨ya_Track,⟨og_Track,oh_Track,oo_Track,os_Track⟩⟩,on_Track_begin,on_Track_square,on_Track_heading,on_Track_due,on_Track_lap⟩
 have ocF:ObC K "Floor" C_Floor:=⟨ya_Floor,⟨og_Floor,oh_Floor,oo_Floor,os_Floor⟩⟩
 obtain⟨_,_,mM_Floor_init,FM_Floor_init⟩:=e_Floor_init.ex
 have bM_Floor_init:=FM_Floor_init.binds (ps:=["self","hall","people"]) fun _ _ _ _ _ _ us hl=>match us,hl with | [_,_,_],_=>rfl
 obtain⟨_,_,mM_people_at,FM_people_at⟩:=e_people_at.ex
 have bM_people_at:=FM_people_at.binds (ps:=["self","square"]) fun _ _ _ _ _ _ us hl=>match us,hl with | [_,_],_=>rfl
 obtain⟨_,_,mM_faces_at,FM_faces_at⟩:=e_faces_at.ex
 have bM_faces_at:=FM_faces_at.binds (ps:=["self","edge"]) fun _ _ _ _ _ _ us hl=>match us,hl with | [_,_],_=>rfl
 obtain⟨_,_,mM_Track_init,FM_Track_init⟩:=e_Track_init.ex
 have bM_Track_init:=FM_Track_init.binds (ps:=["self","begin","part","whole_time"]) fun _ _ _ _ _ _ us hl=>match us,hl with | [_,_,_,_],_=>rfl
 obtain⟨_,_,mM_line_ahead,FM_line_ahead⟩:=e_line_ahead.ex
 have bM_line_ahead:=FM_line_ahead.binds (ps:=["self"]) fun _ _ _ _ _ _ us hl=>match us,hl with | [_],_=>rfl
 obtain⟨_,_,mM_place_at,FM_place_at⟩:=e_place_at.ex
 have bM_place_at:=FM_place_at.binds (ps:=["self","time"]) fun _ _ _ _ _ _ us hl=>match us,hl with | [_,_],_=>rfl
 obtain⟨_,_,mM_time_at,FM_time_at⟩:=e_time_at.ex
 have bM_time_at:=FM_time_at.binds (ps:=["self","place"]) fun _ _ _ _ _ _ us hl=>match us,hl with | [_,_],_=>rfl
 obtain⟨_,_,mM_go_on,FM_go_on⟩:=e_go_on.ex
 have bM_go_on:=FM_go_on.binds (ps:=["self"]) fun _ _ _ _ _ _ us hl=>match us,hl with | [_],_=>rfl
 obtain⟨_,_,mM_turn_back,FM_turn_back⟩:=e_turn_back.ex
 have bM_turn_back:=FM_turn_back.binds (ps:=["self"]) fun _ _ _ _ _ _ us hl=>match us,hl with | [_],_=>rfl
 obtain⟨f_square_of,fd_square_of,g_square_of,b_square_of,k_square_of,m_square_of⟩:=c_square_of.ex
 obtain⟨Ny,fd_amount,g_amount,b_amount,k_amount,m_amount⟩:=c_amount.ex
 obtain⟨Ig,fd_faces,g_faces,b_faces,k_faces,m_faces⟩:=c_faces.ex
 have gM_turn_back:=Bx (P:=l.prog) (w:=w) (mg:=mg) (base:=base) FM_turn_back tcT
 have gM_go_on:=Zdj (P:=l.prog) (w:=w) (mg:=mg) (base:=base) FM_go_on tcT
 have gM_Track_init:=Le (P:=l.prog) (w:=w) (mg:=mg) (base:=base) FM_Track_init tcT g_square_of b_square_of k_square_of m_square_of z_abs
 have gM_line_ahead:=Lg (P:=l.prog) (w:=w) (mg:=mg) (base:=base) FM_line_ahead tcT
 have gM_place_at:=C4 (P:=l.prog) (w:=w) (mg:=mg) (base:=base) FM_place_at tcT mM_line_ahead gM_line_ahead bM_line_ahead g_amount b_amount k_amount m_amount
 have gM_time_at:=E8 (P:=l.prog) (w:=w) (mg:=mg) (base:=base) FM_time_at tcT mM_line_ahead gM_line_ahead bM_line_ahead g_amount b_amount k_amount m_amount
 have gM_people_at:=B4 (P:=l.prog) (w:=w) (mg:=mg) (base:=base) FM_people_at ocF on_Floor_by_square
 have gM_faces_at:=C6 (P:=l.prog) (w:=w) (mg:=mg) (base:=base) FM_faces_at ocF on_Floor_hall on_Floor_known_faces g_faces b_faces k_faces m_faces
 have gM_Floor_init:=Lj (P:=l.prog) (w:=w) (mg:=mg) (base:=base) FM_Floor_init ocF on_Floor_hall on_Floor_known_faces on_Floor_by_square g_square_of b_square_of k_square_of m_square_of
 obtain⟨Mu,fd_time_to,F_time_to,m_time_to⟩:=d_time_to.ex
 have k_time_to:=F_time_to.kp
 have b_time_to:=F_time_to.binds (ps:=["across","upward","person"]) fun _ _ _ _ _ _ us hl=>match us,hl with | [_,_,_],_=>rfl
 have g_time_to:=E9 (P:=l.prog) (w:=w) (mg:=mg) (base:=base) F_time_to tcT mM_time_at gM_time_at bM_time_at
 obtain⟨Sc,fd_below,g_below,b_below,k_below,m_below⟩:=c_below.ex
 obtain⟨f_person_ahead,fd_person_ahead,F_person_ahead,m_person_ahead⟩:=d_person_ahead.ex
 have k_person_ahead:=F_person_ahead.kp
 have b_person_ahead:=F_person_ahead.binds (ps:=["floor","across","upward","whole_time"]) fun _ _ _ _ _ _ us hl=>match us,hl with | [_,_,_,_],_=>rfl
 have g_person_ahead:=Ry (P:=l.prog) (w:=w) (mg:=mg) (base:=base) F_person_ahead tcT ocF mM_people_at gM_people_at bM_people_at g_time_to b_time_to k_time_to m_time_to g_below b_below k_below m_below
 obtain⟨f_face_ahead,fd_face_ahead,F_face_ahead,m_face_ahead⟩:=d_face_ahead.ex
 have k_face_ahead:=F_face_ahead.kp
 have b_face_ahead:=F_face_ahead.binds (ps:=["track","pair"]) fun _ _ _ _ _ _ us hl=>match us,hl with | [_,_],_=>rfl
 have g_face_ahead:=Li (P:=l.prog) (w:=w) (mg:=mg) (base:=base) F_face_ahead tcT
 obtain⟨f_is_corner,fd_is_corner,g_is_corner,b_is_corner,k_is_corner,m_is_corner⟩:=c_is_corner.ex
 obtain⟨f_thing_at,fd_thing_at,F_thing_at,m_thing_at⟩:=d_thing_at.ex
 have k_thing_at:=F_thing_at.kp
 have b_thing_at:=F_thing_at.binds (ps:=["floor","across","upward","now"]) fun _ _ _ _ _ _ us hl=>match us,hl with | [_,_,_,_],_=>rfl
 have g_thing_at:=C8 (P:=l.prog) (w:=w) (mg:=mg) (base:=base) F_thing_at tcT ocF on_Floor_hall mM_line_ahead gM_line_ahead bM_line_ahead g_is_corner b_is_corner k_is_corner m_is_corner mM_faces_at gM_faces_at bM_faces_at g_face_ahead b_face_ahead k_face_ahead m_face_ahead
 have c_how_it_ends:=Tp (P:=l.prog) (w:=w) (base:=base) d_how_it_ends
 obtain⟨f_pass_line,fd_pass_line,F_pass_line,m_pass_line⟩:=d_pass_line.ex
 have k_pass_line:=F_pass_line.kp
 have b_pass_line:=F_pass_line.binds (ps:=["track","now","thing"]) fun _ _ _ _ _ _ us hl=>match us,hl with | [_,_,_],_=>rfl
 have g_pass_line:=B2 (P:=l.prog) (w:=w) (mg:=mg) (base:=base) F_pass_line tcT mM_turn_back gM_turn_back bM_turn_back mM_go_on gM_go_on bM_go_on
 obtain⟨f_whole_time_of,fd_whole_time_of,g_whole_time_of,b_whole_time_of,k_whole_time_of,m_whole_time_of⟩:=c_whole_time_of.ex
 obtain⟨f_how_it_ends,fd_how_it_ends,g_how_it_ends,b_how_it_ends,k_how_it_ends,m_how_it_ends⟩:=c_how_it_ends.ex
 obtain⟨f_walk_on,fd_walk_on,F_walk_on,m_walk_on⟩:=d_walk_on.ex
 have k_walk_on:=F_walk_on.kp
 have b_walk_on:=F_walk_on.binds (ps:=["floor","point","step","most"]) fun _ _ _ _ _ _ us hl=>match us,hl with | [_,_,_,_],_=>rfl
 have g_walk_on:=Fe (P:=l.prog) (w:=w) (mg:=mg) (base:=base) F_walk_on tcT ocF g_whole_time_of b_whole_time_of k_whole_time_of m_whole_time_of ⟨om_Track,mM_Track_init.at_,mM_Track_init.fn,op_Track⟩ gM_Track_init bM_Track_init (PySem.W.mg_of X G ya_Track) g_person_ahead b_person_ahead k_person_ahead m_person_ahead g_thing_at b_thing_at k_thing_at m_thing_at g_how_it_ends b_how_it_ends k_how_it_ends m_how_it_ends mM_place_at gM_place_at bM_place_at g_pass_line b_pass_line k_pass_line m_pass_line z_min z_len
 obtain⟨f_walk,fd_walk,F_walk,m_walk⟩:=d_walk.ex
 have k_walk:=F_walk.kp
 have b_walk:=F_walk.binds (ps:=["hall","people","point","step","most"]) fun _ _ _ _ _ _ us hl=>match us,hl with | [_,_,_,_,_],_=>rfl
 have g_walk:=Zdm (P:=l.prog) (w:=w) (mg:=mg) (base:=base) F_walk ⟨om_Floor,mM_Floor_init.at_,mM_Floor_init.fn,op_Floor⟩ gM_Floor_init bM_Floor_init (PySem.W.mg_of X G ya_Floor) g_walk_on b_walk_on k_walk_on m_walk_on
 have c_walk:Cl l.prog w K mg base 7 "walk" ["hall","people","point","step","most"] Law.F_walk:=⟨_,_,g_walk,b_walk,k_walk,m_walk⟩
 have c_parts_to_images:=Gf d_parts_to_images c_amount z_list z_range z_sorted
 have c_steps_to_images:=Gg d_steps_to_images c_parts_to_images (PySem.W.mg_of X G yg_NO_STEP) yb_NO_STEP
 have c_is_way:=Zai (P:=l.prog) (w:=w) (base:=base) d_is_way
 obtain⟨f_steps_to_images,fd_steps_to_images,g_steps_to_images,b_steps_to_images,k_steps_to_images,m_steps_to_images⟩:=c_steps_to_images.ex
 obtain⟨Dx,fd_is_way,g_is_way,b_is_way,k_is_way,m_is_way⟩:=c_is_way.ex
 obtain⟨Dz,fd_images,F_images,m_images⟩:=d_images.ex
 have k_images:=F_images.kp
 have b_images:=F_images.binds (ps:=["hall","people","one","other","most","reach"]) fun _ _ _ _ _ _ us hl=>match us,hl with | [_,_,_,_,_,_],_=>rfl
 have g_images:=Zak (P:=l.prog) (w:=w) (mg:=mg) (base:=base) F_images ⟨om_Floor,mM_Floor_init.at_,mM_Floor_init.fn,op_Floor⟩ gM_Floor_init bM_Floor_init (PySem.W.mg_of X G ya_Floor) g_walk_on b_walk_on k_walk_on m_walk_on (by decide) g_steps_to_images b_steps_to_images k_steps_to_images m_steps_to_images (by decide) g_is_way b_is_way k_is_way m_is_way
 have c_images:Cl l.prog w K mg base 7 "images" ["hall","people","one","other","most","reach"] Law.F_images:=⟨_,_,g_images,b_images,k_images,m_images⟩
 have c_l_cell:=Zam (P:=l.prog) (w:=w) (base:=base) d_l_cell z_len
 have c_l_numbers:=B6 (P:=l.prog) (w:=w) (base:=base) d_l_numbers z_abs z_range z_int
 have c_l_common:=Da (P:=l.prog) (w:=w) (base:=base) d_l_common z_abs
 have c_l_lowest:=Db d_l_lowest c_l_common
 have c_l_side:=Zan (P:=l.prog) (w:=w) (base:=base) d_l_side
 have c_l_hall:=Zao d_l_hall c_l_numbers c_l_side z_range z_sorted z_tuple
 have c_l_part:=Zap d_l_part c_l_lowest
 have c_l_people:=Dc d_l_people c_l_numbers c_l_part z_range
 have c_l_size:=Zaq (P:=l.prog) (w:=w) (base:=base) d_l_size
 have c_l_sum:=Zdo d_l_sum c_l_lowest
 have c_l_is_number:=Ts d_l_is_number c_l_common z_isinstance z_tuple z_len z_int z_bool
 have c_l_less:=Zas (P:=l.prog) (w:=w) (base:=base) d_l_less
 have c_l_steps:=Fh d_l_steps c_l_sum c_l_less z_range z_abs z_len
 have c_l_right:=Fi d_l_right c_l_is_number c_walk z_isinstance z_tuple z_len z_str z_all
 exact Zkc FL c_l_size c_l_cell c_l_hall c_l_people c_l_steps c_images c_l_right z_len z_list z_isinstance z_all
theorem reps_ints {K:PySem.W.Frag}{H:Hp}:∀ns:List Int,Reps K H (ns.map D.int) (ns.map V.int)
 |[]=>Reps.nil
 |_::ns=>Reps.cons (rep_int.mpr rfl) (reps_ints ns)
def walk {l:PySem.W.OpenLaw}{q:Program}{loose:List Str}{XP:(Str->Option Value)->Heap->Prop}{YP:World->Heap->Prop}{d:DefRec}{K:Params->PySem.W.Frag}(hn:l.most=some 63)(hdf:d.params.defaults=[])(hT:∀ns:List Int,ns.length<=63->Mq [.lst (ns.map D.int)]=.ok (.im (.bl true)))(hY:∀(w:World) (h:Heap),YP w h->(K w.params).In h)
  (F:∀(w:World) (mg:Str->Option Value) (fa:Addr) (h:Heap),(K w.params).In h->h.Ns mainGlobals mg->mg d.name=some (.ref fa) ->
   ∃fd:FuncData,(∀(s:Shared) (u:Value),BindsTo s fd ⟨[u],[]⟩ [("_law_script", u)])/\∀base:Heap,(K w.params).In base->base.Ns mainGlobals mg->FnOk l.prog w (K w.params) mg base Yd 9 fa fd ["_law_script"] (Sr (K w.params) Mq)):
  PySem.W.WalkO q loose XP YP l.row.toRowW d [] (fun f vs=>PySem.call f vs):=
 L2.Zfj (n:=63) (k:=9) (x:="_law_script") (CX:=fun w=>Yd) (sp:=fun w=>Sr (K w.params) Mq) hn (by decide) hdf ⟨rfl,by decide,by decide⟩ hY F
  (fun w H a ns hl _ hS=>⟨H,[.lst (ns.map D.int)],.im (.bl true),Same.refl _,Reps.cons (rep_lst.mpr ⟨a,ns.map V.int,rfl,hS,reps_ints ns⟩) Reps.nil,hT ns hl,fun v Hf' H' _ r=>(rep_bl (K:=K w.params) (H:=Hf')).mp r⟩) fun _ _ _ _ _ z=>z
def Zgp {k:Nat}(h:k<=900):10 ^ k<2 ^ 4000:=by
 have h1:(10:Nat) ^ k<=16 ^ k:=Nat.pow_le_pow_left (by decide) k
 have h2:(16:Nat) ^ k=2 ^ (4*k):=by rw[show(16:Nat)=2 ^ 4 from rfl,<-Nat.pow_mul]
 have h3:(2:Nat) ^ (4*k)<2 ^ 4000:=Nat.pow_lt_pow_right (by decide) (by lia)
 lia
def Q7 {x:Int}{k:Nat}(h:x.natAbs<=10 ^ k)(hk:k<=900):sm x=true:=sm_iff.mpr (Nat.lt_of_le_of_lt h (Zgp hk))
def Qf {x y:Int}{j k:Nat}(hx:x.natAbs<=10 ^ j)(hy:y.natAbs<=10 ^ k):(x*y).natAbs<=10 ^ (j+k):=by
 rw[Int.natAbs_mul,Nat.pow_add]
 exact Nat.mul_le_mul hx hy
def Nu {x y:Int}{k:Nat}(hx:x.natAbs<=10 ^ k)(hy:y.natAbs<=10 ^ k):(x-y).natAbs<=10 ^ (k+1):=by
 have:=Int.natAbs_sub_le x y
 rw[Nat.pow_succ]
 lia
def Zkd (n:Nat):Uc 0 n=(List.range n).map fun(k:Nat)=>D.int (k:Int):=by
 unfold Uc;simp
def Zk4 {fs:Zf->M (List D)}{sd:Zf}{n:Nat}(h:fs sd=.ok [.int (n:Int)])(hn:n<=1000):X4 fs sd=.ok ((List.range n).map fun(k:Nat)=>D.int (k:Int)):=by
 simp[X4,h,Zkd]
 lia
def Kn {ds:List D}(h:ds.length<=1000000):few ds=true:=decide_eq_true h
def Zmo (m:Nat)(f:Zf->M O)(a0:D):V8 1 m f [a0]=Gz (f ([some (S.im a0)]++List.replicate m none)):=rfl
def Zdp (m:Nat)(f:Zf->M O)(a0 a1:D):V8 2 m f [a0,a1]=Gz (f ([some (S.im a0),some (S.im a1)]++List.replicate m none)):=rfl
def Zgq (m:Nat)(f:Zf->M O)(a0 a1 a2:D):V8 3 m f [a0,a1,a2]=Gz (f ([some (S.im a0),some (S.im a1),some (S.im a2)]++List.replicate m none)):=rfl
def Zmp (m:Nat)(f:Zf->M O)(a0 a1 a2 a3:D):V8 4 m f [a0,a1,a2,a3]=Gz (f ([some (S.im a0),some (S.im a1),some (S.im a2),some (S.im a3)]++List.replicate m none)):=rfl
def Zoi (m:Nat)(f:Zf->M O)(a0 a1 a2 a3 a4:D):V8 5 m f [a0,a1,a2,a3,a4]=Gz (f ([some (S.im a0),some (S.im a1),some (S.im a2),some (S.im a3),some (S.im a4)]++List.replicate m none)):=rfl
def Zgr {f g:Zf->M O}{sd sd':Zf}(h:f sd=.ok (.nx sd')):Zu f g sd=g sd':=by unfold Zu;rw[h];rfl
def Yy {f g:Zf->M O}{sd:Zf}{s:S}(h:f sd=.ok (.rt s)):Zu f g sd=.ok (.rt s):=by unfold Zu;rw[h];rfl
def Q3 {fi:Zf->M (List D)}{g:D->Zf->M Zf}{f:Zf->M O}{sd:Zf}{ds:List D}(h:fi sd=.ok ds):Xr fi g f sd=Y1 g f ds sd:=by unfold Xr;rw[h];rfl
def go {f g:Zf->M O}{sd sd':Zf}{r:M O}(h:f sd=.ok (.nx sd'))(k:g sd'=r):Zu f g sd=r:=(Zgr h).trans k
def Qb {r:M O}{s:S}(h:r=.ok (.rt s)):Gz r=.ok s:=by rw[h];rfl
def Jt (i:Nat)(sd:Zf):Wy i (T9 Zj) sd=.ok (.nx (sd.set i (some (.ow [])))):=by
 unfold Wy T9 Zj
 rw[M.bind_ok,Kn (Nat.zero_le _),if_pos rfl,M.bind_ok]
def Zmq {n:Nat}(h:n<=10 ^ 30):n<2 ^ 4000:=by
 have h1:(10:Nat) ^ 30<=16 ^ 30:=Nat.pow_le_pow_left (by decide) 30
 have h2:(16:Nat) ^ 30=2 ^ 120:=by rw[show(16:Nat)=2 ^ 4 from rfl,<-Nat.pow_mul]
 have h3:(2:Nat) ^ 120<2 ^ 4000:=Nat.pow_lt_pow_right (by decide) (by decide)
 lia
def Dd {x:Int}(h:-1000000000000000000000000000000<=x)(h':x<=1000000000000000000000000000000):sm x=true:=sm_iff.mpr (Zmq (by have:(10:Nat) ^ 30=1000000000000000000000000000000:=rfl;lia))
def gT {i j:Int}(hi:sm i=true)(hj:sm j=true):Zs (.int i) (.int j)=.ok (.int (i*j)):=by
 show(if(sm i&&sm j)=true then _ else _)=_
 rw[hi,hj];rfl
def D3 {i j:Int}(hj:0<j)(hs:sm j=true):Yv (.int i) (.int j)=.ok (.int (i/j)):=by
 show(if(j != 0&&sm j)=true then M.ok (D.int (i.fdiv j)) else _)=_
 have:(j != 0)=true:=by simp;lia
 rw[this,hs,Int.fdiv_eq_ediv_of_nonneg i (by lia)];rfl
def gM {i j:Int}(hj:0<j):Q5 (.int i) (.int j)=.ok (.int (i%j)):=by
 show(if(j != 0)=true then M.ok (D.int (i.fmod j)) else _)=_
 have:(j != 0)=true:=by simp;lia
 rw[this,Int.fmod_eq_emod_of_nonneg i (by lia)];rfl
def Z1 {i:Nat}{f:Zf->M D}{sd:Zf}{d:D}(h:f sd=.ok d):Z8 i f sd=.ok (.nx (sd.set i (some (.im d)))):=by unfold Z8;rw[h];rfl
def Z2 {F:List D->M S}{fs:Zf->M (List D)}{sd:Zf}{ds:List D}{s:S}{d:D}(h1:fs sd=.ok ds)(h2:F ds=.ok s)(h3:s.toD=.ok d):Zv F fs sd=.ok d:=by
 unfold Zv;rw[h1,M.bind_ok,h2];exact h3
def a1 {fa:Zf->M D}{sd:Zf}{d:D}(h:fa sd=.ok d):Zc fa Zj sd=.ok [d]:=by unfold Zc Zj;rw[h];rfl
def aC {fa:Zf->M D}{fr:Zf->M (List D)}{sd:Zf}{d:D}{ds:List D}(h:fa sd=.ok d)(h2:fr sd=.ok ds):Zc fa fr sd=.ok (d::ds):=by unfold Zc;rw[h,M.bind_ok,h2];rfl
def Z6 {f:Zf->M D}{sd:Zf}{d:D}(h:f sd=.ok d):Qv f sd=.ok (.rt (.im d)):=by unfold Qv;rw[h];rfl
def Xv {g:List D->M D}{fs:Zf->M (List D)}{sd:Zf}{ds:List D}{r:M D}(h1:fs sd=.ok ds)(h2:g ds=r):Jx g fs sd=r:=by unfold Jx;rw[h1];exact h2
def Q0 {g:D->Zf->M Zf}{f:Zf->M O}{d:D}{r:List D}{sd sd1 sd2:Zf}(h1:g d sd=.ok sd1)(h2:f sd1=.ok (.nx sd2)):Y1 g f (d::r) sd=Y1 g f r sd2:=by
 simp only[Y1,h1,h2,M.bind_ok]
def Yx {α:Type}(x:α)(r:List α):N2 (x::r) 0=some x:=by
 have:=Ke (xs:=x::r) (j:=0) (v:=x) rfl
 exact this
def Yu {α:Type}(x y:α)(r:List α):N2 (x::y::r) 1=some y:=by
 have:=Ke (xs:=x::y::r) (j:=1) (v:=y) rfl
 exact this
def Wl {x:Int}(h:-1000000000<=x)(h':x<=1000000000):sm x=true:=Dd (by lia) (by lia)
def Z0 {c:Zf->M Bool}{f:Zf->M O}{sd:Zf}(h:c sd=.ok false):Jf c f Q8 sd=.ok (.nx sd):=by unfold Jf;rw[h];rfl
def Rk {f g:Zf->M Bool}{sd:Zf}(h1:f sd=.ok false)(h2:g sd=.ok false):DL.tO f g sd=.ok false:=by unfold DL.tO;rw[h1];exact h2
def Tt {f:Zf->M Bool}{sd:Zf}(h:f sd=.ok true):DL.tN f sd=.ok false:=by unfold DL.tN;rw[h];rfl
def Qm {f:Zf->M D}{sd:Zf}{b:Bool}(h:f sd=.ok (.bl b)):DL.tB f sd=.ok b:=by unfold DL.tB;rw[h];rfl
def Zk {g:D->D->M D}{fa fb:Zf->M D}{sd:Zf}{x y:D}{r:M D}(h1:fa sd=.ok x)(h2:fb sd=.ok y)(h3:g x y=r):Zn g fa fb sd=r:=by unfold Zn;rw[h1,M.bind_ok,h2,M.bind_ok,h3]
def Zdq {f g:Zf->M D}{sd:Zf}{r:M D}(h1:f sd=.ok (.bl true))(h2:g sd=r):Rq f g sd=r:=by unfold Rq;rw[h1,M.bind_ok];exact h2
def Qp {c:Zf->M Bool}{f g:Zf->M O}{sd:Zf}{r:M O}(h:c sd=.ok true)(k:f sd=r):Jf c f g sd=r:=by unfold Jf;rw[h];exact k
def Hw {c:Zf->M Bool}{f g:Zf->M O}{sd:Zf}{r:M O}(h:c sd=.ok false)(k:g sd=r):Jf c f g sd=r:=by unfold Jf;rw[h];exact k
def Zoj {f g:Zf->M Bool}{sd:Zf}(h1:f sd=.ok true):DL.tO f g sd=.ok true:=by unfold DL.tO;rw[h1];rfl
def Zok {f g:Zf->M Bool}{sd:Zf}{r:M Bool}(h1:f sd=.ok false)(h2:g sd=r):DL.tO f g sd=r:=by unfold DL.tO;rw[h1];exact h2
def Zmr {f:Zf->M Bool}{sd:Zf}{b:Bool}(h:f sd=.ok b):DL.tN f sd=.ok (!b):=by unfold DL.tN;rw[h];rfl
def Zat {f g:Zf->M Bool}{sd:Zf}(h1:f sd=.ok false):DL.tA f g sd=.ok false:=by unfold DL.tA;rw[h1];rfl
def Lk {f g:Zf->M Bool}{sd:Zf}{r:M Bool}(h1:f sd=.ok true)(h2:g sd=r):DL.tA f g sd=r:=by unfold DL.tA;rw[h1];exact h2
def Zms {f g:Zf->M D}{sd:Zf}(h1:f sd=.ok (.bl false)):Rq f g sd=.ok (.bl false):=by unfold Rq;rw[h1];rfl
def Rl {c:Zf->M Bool}{f g:Zf->M D}{sd:Zf}{r:M D}(h:c sd=.ok true)(k:f sd=r):Ao c f g sd=r:=by unfold Ao;rw[h];exact k
def Tu {c:Zf->M Bool}{f g:Zf->M D}{sd:Zf}{r:M D}(h:c sd=.ok false)(k:g sd=r):Ao c f g sd=r:=by unfold Ao;rw[h];exact k
def Zmt {α:Type}(x y z:α)(r:List α):N2 (x::y::z::r) 2=some z:=Ke (xs:=x::y::z::r) (j:=2) (v:=z) rfl
def Zdr:Zf->M O:=(Zu (Z8 3 (Zn Q5 (Zn Qg (Zn Qg (Zn Zs (Zd 3) (Zn Qg (Zn Q5 (Zd 3) ↑65521) ↑40487)) (Zn Zs ↑7 (Zd 5))) ↑5) ↑1999999973))
   (Zu (K8 2 (Zn Jg (Uv (Zc (Zd 3) (Zc (Zn Q5 (Zd 4) ↑1000000) Zj))) (Jx Ow (Zc (Zn Rp (Zd 4) ↑0) Zj))))
   (Z8 4 (Zn Yv (Zd 4) ↑1000000))))
def Zgs (d:Int):Prop:=0<=d/\d<1999999973
def Zgt (s0 s1:Option S)(ds:List D)(hd:ds.length<=1000)(N R K:Int)(hN:0<=N)(hN':N<1999999973)(hK:0<=K)(hK':K<=1000):
  ∃d N':Int,0<=N'/\N'<1999999973/\Zgs d/\Zdr [s0,s1,some (.ow ds),some (.im (.int N)),some (.im (.int R)),some (.im (.int K))] =
   .ok (.nx [s0,s1,some (.ow (ds++[.int d])),some (.im (.int N')),some (.im (.int (R/1000000))),some (.im (.int K))]):=by
 have q1:0<=N%65521:=Int.emod_nonneg _ (by decide)
 have q2:N%65521<65521:=Int.emod_lt_of_pos _ (by decide)
 have g1:=gM (i:=N) (j:=65521) (by decide)
 have g2:=gT (i:=N) (j:=N%65521+40487) (Dd (by lia) (by lia)) (Dd (by lia) (by lia))
 have g3:=gT (i:=7) (j:=K) (Dd (by lia) (by lia)) (Dd (by lia) (by lia))
 have g4:=gM (i:=N*(N%65521+40487)+7*K+5) (j:=1999999973) (by decide)
 have e1:Z8 3 (Zn Q5 (Zn Qg (Zn Qg (Zn Zs (Zd 3) (Zn Qg (Zn Q5 (Zd 3) ↑65521) ↑40487)) (Zn Zs ↑7 (Zd 5))) ↑5) ↑1999999973)
   [s0,s1,some (.ow ds),some (.im (.int N)),some (.im (.int R)),some (.im (.int K))] =
   .ok (.nx [s0,s1,some (.ow ds),some (.im (.int ((N*(N%65521+40487)+7*K+5)%1999999973))),some (.im (.int R)),some (.im (.int K))]):=by
  simp[Z8,Zn,Zd,eC,g1,Qg,g2,g3,g4]
 have b1:0<=(N*(N%65521+40487)+7*K+5)%1999999973:=Int.emod_nonneg _ (by decide)
 have b2:(N*(N%65521+40487)+7*K+5)%1999999973<1999999973:=Int.emod_lt_of_pos _ (by decide)
 generalize (N*(N%65521+40487)+7*K+5)%1999999973=N' at e1 b1 b2
 have f1:few ds=true:=Kn (by lia)
 have g5:=gM (i:=R) (j:=1000000) (by decide)
 have g8:=D3 (i:=R) (j:=1000000) (by decide) (Dd (by decide) (by decide))
 have f2:few [D.int N',D.int (R%1000000)]=true:=Kn (by simp)
 by_cases hR:R > 0
 ·have p1:0<=R%1000000:=Int.emod_nonneg _ (by decide)
  have p2:R%1000000<1000000:=Int.emod_lt_of_pos _ (by decide)
  refine⟨R%1000000,N',b1,b2,⟨p1,by lia⟩,go e1 ?_⟩
  simp[Zu,K8,Zn,Uv,Zc,Zj,Zd,eC,g5,f2,Jx,Rp,A6,hR,Ow,Jg,Yu,f1,Z8,g8]
 ·refine⟨N',N',b1,b2,⟨b1,b2⟩,go e1 ?_⟩
  simp[Zu,K8,Zn,Uv,Zc,Zj,Zd,eC,g5,f2,Jx,Rp,A6,hR,Ow,Jg,Yx,f1,Z8,g8]
theorem Hy (s0 s1:Option S):∀(ks:List Nat) (ds:List Int) (N R:Int) (v:Option S),ds.length+ks.length<=1000->(∀k∈ks,k<=1000)->0<=N->N<1999999973->(∀d∈ds,Zgs d) ->
  ∃(es:List Int) (N' R':Int) (v':Option S),es.length=ds.length+ks.length/\(∀d∈es,Zgs d)/\Y1 (Yw 5) Zdr (ks.map fun(k:Nat)=>D.int (k:Int)) [s0,s1,some (.ow (ds.map D.int)),some (.im (.int N)),some (.im (.int R)),v] =
   .ok (.nx [s0,s1,some (.ow (es.map D.int)),some (.im (.int N')),some (.im (.int R')),v'])
 |[],ds,N,R,v,_,_,_,_,hd=>⟨ds,N,R,v,by simp,hd,by simp[Y1]⟩
 |k::ks,ds,N,R,v,h,hk,hN,hN',hd=>by
  rw[List.length_cons] at h
  have hk0:=hk k List.mem_cons_self
  obtain⟨d,N1,h1,h2,h3,e⟩:=Zgt s0 s1 (ds.map D.int) (by simp;lia) N R (k:Int) hN hN' (by lia) (by lia)
  obtain⟨es,N',R',v',hl,ho,ih⟩:=Hy s0 s1 ks (ds++[d]) N1 (R/1000000) (some (.im (.int (k:Int)))) (by simp;lia) (fun k hk'=>hk k (List.mem_cons_of_mem _ hk')) h1 h2 (fun d' hd'=>by
   rcases List.mem_append.mp hd' with q|q
   ·exact hd d' q
   ·have:d'=d:=by simpa using q
    rw[this];exact h3)
  refine⟨es,N',R',v',by rw[hl];simp;lia,ho,?_⟩
  rw[List.map_append,List.map_cons,List.map_nil] at ih
  rw[<-ih]
  simp[Y1,Yw,e]
def Mr (c:Int)(n:Nat)(hn:n<=1000):∃es:List Int,es.length=n/\(∀d∈es,Zgs d)/\Xn [.int c,.int (n:Int)]=.ok (.ow (es.map D.int)):=by
 have g1:=gM (i:=c) (j:=1999999973) (by decide)
 have q1:0<=c%1999999973:=Int.emod_nonneg _ (by decide)
 have q2:c%1999999973<1999999973:=Int.emod_lt_of_pos _ (by decide)
 have g2:=gT (i:=c%1999999973+31) (j:=765432101) (Dd (by lia) (by lia)) (Dd (by lia) (by lia))
 have g3:=gM (i:=(c%1999999973+31)*765432101) (j:=1999999973) (by decide)
 have g4:Zfn (.int 10) (.int 18)=.ok (.int 1000000000000000000):=rfl
 have b1:0<=(c%1999999973+31)*765432101%1999999973:=Int.emod_nonneg _ (by decide)
 have b2:(c%1999999973+31)*765432101%1999999973<1999999973:=Int.emod_lt_of_pos _ (by decide)
 have e2:Z8 3 (Zn Q5 (Zn Zs (Zn Qg (Zn Q5 (Zd 0) ↑1999999973) ↑31) ↑765432101) ↑1999999973) [some (.im (.int c)),some (.im (.int (n:Int))),some (.ow []),none,none,none] =
   .ok (.nx [some (.im (.int c)),some (.im (.int (n:Int))),some (.ow []),some (.im (.int ((c%1999999973+31)*765432101%1999999973))),none,none]):=by
  simp[Z8,Zn,Zd,eC,g1,Qg,g2,g3]
 generalize (c%1999999973+31)*765432101%1999999973=N at e2 b1 b2
 obtain⟨R,e4⟩:∃R:Int,(Jf (DL.tO (DL.tB (Zn T7 (Zd 0) ↑0)) (DL.tB (Zn Zl0 (Zd 0) (Zn Zfn ↑10 ↑18)))) (Z8 4 (Jx Vt (Zc (Zd 0) Zj))) Q8) [some (.im (.int c)),some (.im (.int (n:Int))),some (.ow []),some (.im (.int N)),some (.im (.int 0)),none] =
   .ok (.nx [some (.im (.int c)),some (.im (.int (n:Int))),some (.ow []),some (.im (.int N)),some (.im (.int R)),none]):=by
  by_cases h1:c<0
  ·exact⟨-c,by simp[Jf,DL.tO,DL.tB,Zn,Zd,eC,T7,A6,h1,asB,Z8,Jx,Vt,Zc,Zj]⟩
  ·by_cases h2:1000000000000000000<=c
   ·exact⟨c,by simp[Jf,DL.tO,DL.tB,Zn,Zd,eC,T7,Zl0,A6,h1,h2,g4,asB,Z8,Jx,Vt,Zc,Zj]⟩
   ·exact⟨0,by simp[Jf,DL.tO,DL.tB,Zn,Zd,eC,T7,Zl0,A6,h1,h2,g4,asB,Z8,Jx,Vt,Zc,Zj,Q8]⟩
 obtain⟨es,N',R',v',hl,ho,e5⟩:=Hy (some (.im (.int c))) (some (.im (.int (n:Int)))) (List.range n) [] N R none (by simp;lia) (fun k hk=>by have:=List.mem_range.mp hk;lia) b1 b2 (fun d hd=>by simp at hd)
 refine⟨es,by simpa using hl,ho,?_⟩
 have r1:∀s0 s,X4 (Zc (Zd 1) Zj) (s0::some (.im (.int (n:Int)))::s)=.ok ((List.range n).map fun(k:Nat)=>D.int (k:Int)):=fun s0 s=>Zk4 (by simp[Zc,Zj,Zd]) hn
 exact(Zdp _ _ _ _).trans (Qb (go (Jt 2 _) (go e2 (go rfl (go e4 (go ((Q3 (r1 _ _)).trans e5) rfl))))))
def Uz {fa fb:Zf->M D}{sd:Zf}{a b:D}(h1:fa sd=.ok a)(h2:fb sd=.ok b):Qn (Zc fa (Zc fb Zj)) sd=.ok (.tup [a,b]):=by
 unfold Qn;rw[aC h1 (a1 h2)];rfl
def B7 {fs:Zf->M (List D)}{sd:Zf}{ds:List D}(h:fs sd=.ok ds)(hf:few ds=true):Uv fs sd=.ok (.lst ds):=by
 unfold Uv
 rw[h,M.bind_ok,if_pos hf]
def Jd {x y:D}(h:x.dep<=60):Jw x y=.ok (.bl (D.eq x y)):=if_pos h
def Wm {x y:D}(h:x.dep<=60):Ww x y=.ok (.bl (!D.eq x y)):=if_pos h
def X9 (a b:Int):Jw (.int a) (.int b)=.ok (.bl (a==b)):=by rw[Jd (by simp[D.dep])];simp only[D.eq]
def Zke {f g:Zf->M Bool}{sd:Zf}{a b:Bool}(h1:f sd=.ok a)(h2:g sd=.ok b):DL.tO f g sd=.ok (a||b):=by
 cases a
 ·exact Zok h1 h2
 ·exact Zoj h1
def Zkf {f g:Zf->M Bool}{sd:Zf}{a b:Bool}(h1:f sd=.ok a)(h2:g sd=.ok b):DL.tA f g sd=.ok (a&&b):=by
 cases a
 ·exact Zat h1
 ·exact Lk h1 h2
def B8 {f g:Zf->M D}{sd:Zf}{a b:Bool}(h1:f sd=.ok (.bl a))(h2:g sd=.ok (.bl b)):Rq f g sd=.ok (.bl (a&&b)):=by
 cases a
 ·exact Zms h1
 ·exact Zdq h1 h2
theorem Uq {n:Nat}:∀{l:List D},(∀d∈l,d.dep<=n)->D.deps l<=n
 |[],_=>by simp[D.deps]
 |a::r,h=>by
  simp only[D.deps]
  have:=h a (by simp)
  have:=Uq (l:=r) fun d hd=>h d (by simp[hd])
  lia
def Pz {i:Nat}{f:Zf->M D}{sd:Zf}{ds:List D}{d:D}(h:sd[i]?=some (some (.ow ds)))(hf:f sd=.ok d)(hl:ds.length<=1000):K8 i f sd=.ok (.nx (sd.set i (some (.ow (ds++[d]))))):=by
 unfold K8
 rw[h]
 dsimp only
 rw[hf,M.bind_ok,Kn (by lia),if_pos rfl]
def Ms {f:Zf->M D}{sd:Zf}{ds:List D}(h:f sd=.ok (.tup ds)):Xi f sd=.ok ds:=by
 unfold Xi
 rw[h]
 rfl
def Uu {f:Zf->M D}{sd:Zf}{ds:List D}(h:f sd=.ok (.lst ds)):Xi f sd=.ok ds:=by
 unfold Xi
 rw[h]
 rfl
theorem Zau {α:Type}{gt:D->Zf->M Zf}{fe:Zf->M D}{sd0:Zf}(e g:α->D):∀l:List α,(∀a∈l,∃sd1,gt (e a) sd0=.ok sd1/\fe sd1=.ok (g a))->Wx gt fe sd0 (l.map e)=.ok (l.map g)
 |[],_=>rfl
 |a::l,h=>by
  obtain⟨sd1,h1,h2⟩:=h a (by simp)
  rw[List.map_cons,List.map_cons]
  simp only[Wx,h1,h2,Zau e g l fun b hb=>h b (by simp[hb])]
def Zds {xs ys:List D}(h:xs.length+ys.length<=1000):Qg (.lst xs) (.lst ys)=.ok (.lst (xs++ys)):=by
 show(if few (xs++ys) then M.ok (D.lst (xs++ys)) else .bad)=_
 rw[Kn (by rw[List.length_append];lia),if_pos rfl]
def De {g l:Int}(hg:0<=g)(hl:0<l):Int.gcd l (g%l)=Int.gcd g l:=by
 obtain⟨g',rfl⟩:=Int.eq_ofNat_of_zero_le hg
 obtain⟨l',rfl⟩:=Int.eq_ofNat_of_zero_le (Int.le_of_lt hl)
 rw[<-Int.natCast_emod]
 simp only[Int.gcd,Int.natAbs_natCast]
 rw[Nat.gcd_comm l',<-Nat.gcd_rec,Nat.gcd_comm]
def Zav {g:Int}(hg:0<=g):((Int.gcd g 0:Nat):Int)=g:=by
 rw[Int.gcd_zero_right];lia
theorem Hz (x y:Option S):∀(n:Nat) (g l:Int) (r:Option S),0<=g->0<=l->l.toNat<n ->
  ∃r',Yt (DL.tB (Zn Ww (Zd 3) ↑0)) (Zu (Z8 4 (Zn Q5 (Zd 2) (Zd 3))) (Zu (Z8 2 (Zd 3)) (Z8 3 (Zd 4)))) n [x,y,some (.im (.int g)),some (.im (.int l)),r] =
   .ok (.nx [x,y,some (.im (.int (Int.gcd g l:Nat))),some (.im (.int 0)),r'])
 |0,_,_,_,_,_,h=>by lia
 |n+1,g,l,r,hg,hl,h=>by
  by_cases hz:l=0
  ·subst hz
   refine⟨r,?_⟩
   simp[Yt,DL.tB,Zn,Zd,eC,Ww,D.dep,D.eq,asB,Zav hg]
   lia
  ·have hp:0<l:=by lia
   have hm0:0<=g%l:=Int.emod_nonneg g (by lia)
   have hm1:g%l<l:=Int.emod_lt_of_pos g hp
   obtain⟨r',e⟩:=Hz x y n l (g%l) (some (.im (.int (g%l)))) hl hm0 (by lia)
   refine⟨r',?_⟩
   rw[De hg hp] at e
   rw[<-e]
   simp[Yt,DL.tB,Zn,Zd,eC,Ww,D.dep,D.eq,asB,Zu,Z8,gM hp,hz]
def ab (a:Int):(if a<0 then -a else a)=(a.natAbs:Int):=by split<;>lia
def Gh (a:Int):Vt [.int a]=.ok (.int (a.natAbs:Int)):=by
 show M.ok (D.int (if a<0 then -a else a))=_
 rw[ab]
def Zol (a b:Int):Xs [.int a,.int b]=.ok (.im (.int (Int.gcd a b:Nat))):=by
 obtain⟨r',e⟩:=Hz (some (.im (.int a))) (some (.im (.int b))) (b.natAbs+1) a.natAbs b.natAbs none (by lia) (by lia) (by lia)
 have e2:=L1 (c:=DL.tB (Zn Ww (Zd 3) ↑0)) (f:=Zu (Z8 4 (Zn Q5 (Zd 2) (Zd 3))) (Zu (Z8 2 (Zd 3)) (Z8 3 (Zd 4)))) (n:=b.natAbs+1) (sd:=[some (.im (.int a)),some (.im (.int b)),some (.im (.int a.natAbs)),some (.im (.int b.natAbs)),none]) (by rw[e];simp)
 rw[e] at e2
 refine(Zdp _ _ _ _).trans (Qb (go (Z1 (Xv (a1 rfl) (Gh a))) (go (Z1 (Xv (a1 rfl) (Gh b))) (go e2 (Z6 ?_)))))
 show M.ok (D.int ((Int.gcd (a.natAbs:Int) (b.natAbs:Int):Nat):Int))=_
 simp[Int.gcd]
def nD (p q:Int):D:=.tup [.int p,.int q]
def Qq (t b:Int):D:=nD (t/(Int.gcd t b:Nat)) (b/(Int.gcd t b:Nat))
def B9 {t b:Int}(hb:b≠0\/t≠0):(0:Int)<(Int.gcd t b:Nat):=by
 have:0<Int.gcd t b:=Nat.pos_of_ne_zero fun z=>by
  have:=Int.gcd_eq_zero_iff.mp z
  lia
 lia
def Nv {fa fb:Zf->M D}{sd:Zf}{ds:List D}{i:Int}{d:D}(h:fa sd=.ok (.lst ds))(h2:fb sd=.ok (.int i))(e:N2 ds i=some d):Zn Jg fa fb sd=.ok d:=by
 refine Zk h h2 ?_
 show(match N2 ds i with|some d=>M.ok d|none=>.bad)=_
 rw[e]
def Zp {fa fb:Zf->M D}{sd:Zf}{ds:List D}{i:Int}{d:D}(h:fa sd=.ok (.tup ds))(h2:fb sd=.ok (.int i))(e:N2 ds i=some d):Zn Jg fa fb sd=.ok d:=by
 refine Zk h h2 ?_
 show(match N2 ds i with|some d=>M.ok d|none=>.bad)=_
 rw[e]
theorem Tv {α:Type}:∀l:List α,X3 (l.map fun _=>D.bl true)=some (l.map fun _=>true)
 |[]=>rfl
 |a::l=>by
  rw[List.map_cons,List.map_cons]
  simp only[X3,Tv l]
  rfl
def Tw {f:Zf->M (List D)}{sd:Zf}{ds:List D}(h:f sd=.ok ds):U7 f sd=.ok (.lst ds):=by
 unfold U7;rw[h];rfl
def Nw {fi:Zf->M (List D)}{n0:Nat}{caps:List Nat}{gt:D->Zf->M Zf}{fe:Zf->M D}{sd:Zf}{ds:List D}{r:M (List D)}(h:fi sd=.ok ds)(hf:ds.length<=1000)(hr:Wx gt fe (V5 n0 caps sd) ds=r):Ut fi n0 caps gt fe sd=r:=by
 unfold Ut
 rw[h,M.bind_ok,Kn (by lia),if_pos rfl,hr]
def Aa {i:Nat}{f:Zf->M Bool}{sd:Zf}{b:Bool}(h:f (frz i sd)=.ok b):W0 i f sd=.ok b:=by
 unfold W0
 rw[h]
def Nx {i:Nat}{f:Zf->M O}{sd:Zf}{r:M O}(h:f (frz i sd)=r):Bh i f sd=r:=h
def Ab {ds:List D}:Vz [.lst ds]=.ok (.int (ds.length:Int)):=rfl
def m4 (a b c d:Int):a*b*(c*d)=a*c*(b*d):=by rw[Int.mul_assoc,Int.mul_assoc,Int.mul_left_comm b]
def Ys {t b:Int}(hb:0<b):∃p q,Qq t b=nD p q/\0<q/\p*b=t*q/\Int.gcd p q=1/\p.natAbs<=t.natAbs/\q<=b:=by
 obtain⟨u,eu⟩:((Int.gcd t b:Nat):Int) ∣ t:=Int.gcd_dvd_left t b
 obtain⟨v,ev⟩:((Int.gcd t b:Nat):Int) ∣ b:=Int.gcd_dvd_right t b
 have gp:=B9 (t:=t) (b:=b) (by lia)
 have hg:Int.gcd u v=1:=by
  have h1:Int.gcd ((Int.gcd t b:Nat)*u) ((Int.gcd t b:Nat)*v)=Int.gcd t b:=by rw[<-eu,<-ev]
  rw[Int.gcd_mul_left,Int.natAbs_natCast] at h1
  have h0:0<Int.gcd t b:=by lia
  exact Nat.eq_of_mul_eq_mul_left h0 (by rw[h1,Nat.mul_one])
 refine⟨t/(Int.gcd t b:Nat),b/(Int.gcd t b:Nat),rfl,?_⟩
 generalize ((Int.gcd t b:Nat):Int)=g at eu ev gp ⊢
 rw[eu,ev,Int.mul_ediv_cancel_left _ (by lia),Int.mul_ediv_cancel_left _ (by lia)]
 have v1:0<v:=by
  rcases Int.lt_or_le 0 v with h|h
  ·exact h
  ·have:=Int.mul_nonpos_of_nonneg_of_nonpos (Int.le_of_lt gp) h;lia
 refine⟨v1,by rw[Int.mul_left_comm,Int.mul_assoc],hg,?_,?_⟩
 ·rw[Int.natAbs_mul]
  exact Nat.le_mul_of_pos_left _ (by lia)
 ·have:=Int.mul_le_mul_of_nonneg_right (show(1:Int)<=g by lia) (Int.le_of_lt v1)
  lia
def Zaw {p q p' q':Int}(hq:0<q)(hq':0<q')(c:Int.gcd p q=1)(c':Int.gcd p' q'=1)(e:p*q'=p'*q):p=p'/\q=q':=by
 have half:∀{p q p' q':Int},Int.gcd p q=1->p*q'=p'*q->q ∣ q':=fun {p q p' q'} c e=>by
  have:q ∣ p*q':=by rw[e];exact Int.dvd_mul_left _ _
  have c2:Int.gcd q p=1:=by rw[Int.gcd_comm];exact c
  have h1:q.natAbs ∣ p.natAbs*q'.natAbs:=by rw[<-Int.natAbs_mul];exact Int.natAbs_dvd_natAbs.mpr this
  have h2:q.natAbs ∣ q'.natAbs:=Nat.Coprime.dvd_of_dvd_mul_left (show Nat.Coprime q.natAbs p.natAbs from c2) h1
  exact Int.natAbs_dvd_natAbs.mp h2
 have d1:=half c e
 have d2:=half c' e.symm
 have eq:q=q':=by
  have h1:=Int.le_of_dvd hq' d1
  have h2:=Int.le_of_dvd hq d2
  lia
 subst eq
 exact⟨Int.eq_of_mul_eq_mul_right (by lia) e,rfl⟩
def Mt {t b t' b':Int}(hb:0<b)(hb':0<b')(e:t*b'=t'*b):Qq t b=Qq t' b':=by
 obtain⟨p,q,e1,q1,r1,c1,_⟩:=Ys (t:=t) hb
 obtain⟨p',q',e2,q2,r2,c2,_⟩:=Ys (t:=t') hb'
 have:p=p'/\q=q':=by
  refine Zaw q1 q2 c1 c2 ?_
  have h:(p*q')*(b*b')=(p'*q)*(b*b'):=by
   have a1:(p*q')*(b*b')=(p*b)*(q'*b'):=by rw[m4]
   have a2:(p'*q)*(b*b')=(p'*b')*(q*b):=by rw[Int.mul_comm b b',m4]
   have a3:(t*q)*(q'*b')=(t*b')*(q*q'):=by rw[Int.mul_comm q' b',m4]
   have a4:(t'*q')*(q*b)=(t'*b)*(q*q'):=by rw[Int.mul_comm q b,m4,Int.mul_comm q' q]
   rw[a1,a2,r1,r2,a3,a4,e]
  exact Int.eq_of_mul_eq_mul_right (Int.mul_ne_zero (by lia) (by lia)) h
 rw[e1,e2,this.1,this.2]
structure Fr (k:Nat) (p q:Int):Prop where
 pos:0<q
 top:p.natAbs<=10 ^ k
 bot:q.natAbs<=10 ^ k
def Fr.mono {j k:Nat}{p q:Int}(h:Fr j p q)(hk:j<=k):Fr k p q:=
 have:=Nat.pow_le_pow_right (show 0<10 by decide) hk
 ⟨h.pos,by have:=h.top;lia,by have:=h.bot;lia⟩
def Fj {k:Nat}{t b:Int}(h:Fr k t b):∃p q,Qq t b=nD p q/\Fr k p q/\p*b=t*q/\Int.gcd p q=1:=by
 obtain⟨p,q,e,q1,r,c,h1,h2⟩:=Ys (t:=t) h.pos
 have:=h.top
 have:=h.bot
 exact⟨p,q,e,⟨q1,by lia,by lia⟩,r,c⟩
def Zdt {k:Nat}{t b:Int}(h:t.natAbs<=10 ^ k)(h2:b.natAbs<=10 ^ k):(((Int.gcd t b:Nat):Int)).natAbs<=10 ^ k:=by
 rw[Int.natAbs_natCast]
 by_cases hz:b=0
 ·subst hz;simpa using h
 ·have h1:((Int.gcd t b:Nat):Int) ∣ b:=Int.gcd_dvd_right t b
  have h2:=Nat.le_of_dvd (by lia) (Int.natAbs_dvd_natAbs.mpr h1)
  rw[Int.natAbs_natCast] at h2
  lia
def Ny {k:Nat}{t b:Int}(h:Fr k t b)(hk:k<=900):Jq [.int t,.int b]=.ok (.im (Qq t b)):=by
 have gp:=B9 (t:=t) (b:=b) (by have:=h.pos;lia)
 have gs:sm ((Int.gcd t b:Nat):Int)=true:=Q7 (Zdt h.top h.bot) hk
 exact(Zdp _ _ _ _).trans (Qb (go (Z1 (Z2 (aC rfl (a1 rfl)) (Zol t b) rfl)) (Z6 (Uz (Zk rfl rfl (D3 gp gs)) (Zk rfl rfl (D3 gp gs))))))
def Vx {j k:Nat}(h:j<=k):(10:Nat) ^ j<=10 ^ k:=Nat.pow_le_pow_right (by decide) h
def Sc {k:Nat}{a b c d:Int}(h1:Fr k a b)(h2:Fr k c d)(hk:k<=400):Ky [nD a b,nD c d]=.ok (.im (.bl (decide (a*d<c*b)))):=by
 have sa:=Q7 h1.top (by lia)
 have sb:=Q7 h1.bot (by lia)
 have sc:=Q7 h2.top (by lia)
 have sd:=Q7 h2.bot (by lia)
 exact(Zdp _ _ _ _).trans (Qb (Z6 (Zk (Zk (Zp rfl rfl (Yx _ _)) (Zp rfl rfl (Yu _ _ _)) (gT sa sd)) (Zk (Zp rfl rfl (Yx _ _)) (Zp rfl rfl (Yu _ _ _)) (gT sc sb)) rfl)))
theorem Ia:∀(n:Nat) (hi lo:Int),0<=hi->0<=lo->lo.toNat<n ->
  Yt (DL.tB (Zn Rp (Zd 1) ↑0)) (Ox 0 1 (Zc (Zd 1) (Zc (Zn Q5 (Zd 0) (Zd 1)) Zj))) n [some (.im (.int hi)),some (.im (.int lo))] =
   .ok (.nx [some (.im (.int (Int.gcd hi lo:Nat))),some (.im (.int 0))])
 |0,_,_,_,_,h=>by lia
 |n+1,hi,lo,hg,hl,h=>by
  by_cases hz:lo=0
  ·subst hz
   simp[Yt,DL.tB,Zn,Zd,eC,Rp,A6,asB]
   lia
  ·have hp:0<lo:=by lia
   have hm0:0<=hi%lo:=Int.emod_nonneg hi (by lia)
   have hm1:hi%lo<lo:=Int.emod_lt_of_pos hi hp
   have e:=Ia n lo (hi%lo) hl hm0 (by lia)
   rw[De hg hp] at e
   rw[<-e]
   simp[Yt,DL.tB,Zn,Zd,eC,Rp,A6,asB,Ox,Zc,Zj,gM hp,hp]
def Zdu {hi lo:Int}(h1:0<=hi)(h2:0<=lo):W5 (DL.tB (Zn Rp (Zd 1) ↑0)) (Ox 0 1 (Zc (Zd 1) (Zc (Zn Q5 (Zd 0) (Zd 1)) Zj))) [some (.im (.int hi)),some (.im (.int lo))]=.ok (.nx [some (.im (.int (Int.gcd hi lo:Nat))),some (.im (.int 0))]):=by
 have e:=Ia (lo.toNat+1) hi lo h1 h2 (by lia)
 have e2:=L1 (c:=DL.tB (Zn Rp (Zd 1) ↑0)) (f:=Ox 0 1 (Zc (Zd 1) (Zc (Zn Q5 (Zd 0) (Zd 1)) Zj))) (n:=lo.toNat+1) (sd:=[some (.im (.int hi)),some (.im (.int lo))]) (by rw[e];simp)
 exact e2.trans e
def Zdv (t b:Int):Ka [.int t,.int b]=.ok (.im (.int (Int.gcd t b:Nat))):=by
 have eg:((Int.gcd (t.natAbs:Int) (b.natAbs:Int):Nat):Int)=(Int.gcd t b:Nat):=by simp[Int.gcd]
 have w:=Zdu (hi:=(t.natAbs:Int)) (lo:=(b.natAbs:Int)) (by lia) (by lia)
 rw[eg] at w
 exact(Zdp _ _ _ _).trans (Qb (go (Z1 (Xv (a1 rfl) (Gh t))) (go (Z1 (Xv (a1 rfl) (Gh b))) (go w (Z6 rfl)))))
def Zhx {k:Nat}{t b:Int}(h:Fr k t b)(hk:k<=900):X8 [.int t,.int b]=.ok (.im (Qq t b)):=by
 have gp:=B9 (t:=t) (b:=b) (by have:=h.pos;lia)
 have gs:sm ((Int.gcd t b:Nat):Int)=true:=Q7 (Zdt h.top h.bot) hk
 exact(Zdp _ _ _ _).trans (Qb (go (Z1 (Z2 (aC rfl (a1 rfl)) (Zdv t b) rfl)) (Z6 (Uz (Zk rfl rfl (D3 gp gs)) (Zk rfl rfl (D3 gp gs))))))
abbrev Io (d:D):Option S:=some (.im d)
abbrev Jo (i:Int):Option S:=some (.im (.int i))
section
variable {k:Nat}{a b c d:Int}
def Tx {p q p' q':Int}(hb:0<b)(hd:0<d)(hq:0<q)(hq':0<q')(m1:p*b=a*q)(m2:p'*d=c*q'):p*q'<p'*q↔a*d<c*b:=by
 have e1:p*q'*(b*d)=a*d*(q*q'):=by grind
 have e2:p'*q*(b*d)=c*b*(q*q'):=by grind
 have h1:=Int.mul_pos hb hd
 have h2:=Int.mul_pos hq hq'
 constructor
 ·intro h
  have:=Int.mul_lt_mul_of_pos_right h h1
  rw[e1,e2] at this
  exact Int.lt_of_mul_lt_mul_right this (Int.le_of_lt h2)
 ·intro h
  have:=Int.mul_lt_mul_of_pos_right h h2
  rw[<-e1,<-e2] at this
  exact Int.lt_of_mul_lt_mul_right this (Int.le_of_lt h1)
end
def Zgu {t b t' b':Int}(hb:0<b)(hb':0<b'):Qq t b=Qq t' b'↔t*b'=t'*b:=by
 constructor
 ·intro h
  obtain⟨p,q,e1,f1,m1,_⟩:=Ys (t:=t) hb
  obtain⟨p',q',e2,f2,m2,_⟩:=Ys (t:=t') hb'
  rw[e1,e2] at h
  unfold nD at h
  injection h with h
  injection h with h1 h
  injection h with h2 _
  injection h1 with h1
  injection h2 with h2
  subst h1
  subst h2
  have:t*b'*q=t'*b*q:=by grind
  exact Int.eq_of_mul_eq_mul_right (by lia) this
 ·exact Mt hb hb'
def Zpd (m:Nat)(f:Zf->M O)(a0:S):Hh 1 m f [a0]=Gz (f ([some a0]++List.replicate m none)):=rfl
def Znh (m:Nat)(f:Zf->M O)(a0 a1:S):Hh 2 m f [a0,a1]=Gz (f ([some a0,some a1]++List.replicate m none)):=rfl
def Zmu (m:Nat)(f:Zf->M O)(a0 a1 a2:S):Hh 3 m f [a0,a1,a2]=Gz (f ([some a0,some a1,some a2]++List.replicate m none)):=rfl
def Zpe (m:Nat)(f:Zf->M O)(a0 a1 a2 a3:S):Hh 4 m f [a0,a1,a2,a3]=Gz (f ([some a0,some a1,some a2,some a3]++List.replicate m none)):=rfl
def trk (b:D)(sq h due lap:Int):Qw:=[("begin", b),("square", .int sq),("heading", .int h),("due", .int due),("lap", .int lap)]
def Zkg (b th:D)(sq h due lap now:Int)(ht:th.dep<=60):F_pass_line (trk b sq h due lap) [.int now,th]=some (if due=now then(if D.eq th (.str (Str.ofString "m"))=true then trk b sq (-h) (due+lap) lap else trk b (sq+h) h (due+lap) lap) else trk b sq h due lap):=by
 unfold F_pass_line Zes
 rw[if_pos (by rfl)]
 have e1:gB (D2 Jw (Ux "due") (Ku (Zd 1))) (none::([D.int now,th].map (fun d=>Io d)++List.replicate 0 none)) (trk b sq h due lap)=.ok (due==now):=by
  show(Jw (.int due) (.int now)).bind asB=_
  rw[X9]
  rfl
 have e2:(DL.tB (Zn Jw (Zd 2) ↑"m") (none::([D.int now,th].map (fun d=>Io d)++List.replicate 0 none)))=.ok (D.eq th (.str (Str.ofString "m"))):=by
  show(Jw th (.str (Str.ofString "m"))).bind asB=_
  rw[Jd ht]
  rfl
 unfold Zer
 rw[e1]
 by_cases hd:due=now
 ·rw[if_pos hd,show(due==now)=true by simp[hd]]
  dsimp only[]
  rw[e2]
  cases D.eq th (.str (Str.ofString "m")) with
  |true=>rfl
  |false=>rfl
 ·rw[if_neg hd,show(due==now)=false by simp[hd]]
  rfl
def Jy (sq h:Int):Int:=if 0<h then sq+1 else sq
def Zkh (a:Addr)(b:D)(sq h due lap:Int):Qo [.ob a "Track" (trk b sq h due lap)]=.ok (.im (.int (Jy sq h))):=by
 unfold Jy
 refine(Zpd _ _ _).trans (Qb (Z6 ?_))
 by_cases hh:0<h
 ·rw[if_pos hh]
  exact Rl (Qm (Zk rfl rfl (show Rp (.int h) (.int 0)=.ok (.bl true) by show M.ok (D.bl (decide (h > 0)))=_;rw[decide_eq_true hh]))) rfl
 ·rw[if_neg hh]
  exact Tu (Qm (Zk rfl rfl (show Rp (.int h) (.int 0)=.ok (.bl false) by show M.ok (D.bl (decide (h > 0)))=_;rw[decide_eq_false hh]))) rfl
def Wn (i:Nat){sd:Zf}{a:Addr}{b:D}{sq h due lap:Int} (e:sd[i]?=some (some (.ob a "Track" (trk b sq h due lap)))):Xj i "Track" "line_ahead" Qo Zj sd=.ok (.int (Jy sq h)):=by
 unfold Xj
 rw[e]
 show(if _/\_ then _ else _)=_
 rw[if_pos ⟨rfl,rfl⟩]
 show Nj (Qo [.ob a "Track" (trk b sq h due lap)])=_
 rw[Zkh]
 rfl
def Zdw (a:Addr)(b:D)(sq due lap now:Int):Yf [.ob a "Track" (trk b sq 0 due lap),.im (.int now)]=.ok (.im b):=by
 refine(Znh _ _ _ _).trans ?_
 exact Qb (Yy (Qp (Qm (Zk rfl rfl (show Jw (.int 0) (.int 0)=.ok (.bl true) by rw[X9];rfl))) (Z6 rfl)))
def Zgv {k:Nat}(a:Addr)(b:D){sq h due lap now:Int}(hh:h≠0)(hl:0<lap)(bl:lap.natAbs<=10 ^ k)(b1:(Jy sq h).natAbs<=10 ^ k)(b2:h.natAbs<=10 ^ k)(b3:(due-now).natAbs<=10 ^ k)(hk:k<=300):
  Yf [.ob a "Track" (trk b sq h due lap),.im (.int now)]=.ok (.im (Qq (Jy sq h*lap-h*(due-now)) lap)):=by
 have hf:Fr (k+k+1) (Jy sq h*lap-h*(due-now)) lap:=⟨hl,Nu (Qf b1 bl) (Qf b2 b3),Nat.le_trans bl (Vx (by lia))⟩
 refine(Znh _ _ _ _).trans ?_
 refine Qb (go (Z0 (Qm (Zk rfl rfl (show Jw (.int h) (.int 0)=.ok (.bl false) by rw[X9];simp[hh])))) (Z6 (Z2 (aC (d:=.int (Jy sq h*lap-h*(due-now))) ?_ (a1 (d:=.int lap) rfl)) (Ny hf (by lia)) rfl)))
 exact Zk (Zk (Wn 0 rfl) rfl (gT (Q7 b1 (by lia)) (Q7 bl (by lia)))) (Zk rfl (Zk rfl rfl rfl) (gT (Q7 b2 (by lia)) (Q7 b3 (by lia)))) rfl
def Zax {k:Nat}(a:Addr)(b:D){sq h due lap n d:Int}(hd:Fr k n d)(bl:lap.natAbs<=10 ^ k)(b1:(Jy sq h).natAbs<=10 ^ k)(b2:h.natAbs<=10 ^ k)(b3:due.natAbs<=10 ^ k)(hk:k<=100):
  K3 [.ob a "Track" (trk b sq h due lap),.im (nD n d)]=.ok (.im (Qq (due*d-h*(Jy sq h*d-n)*lap) d)):=by
 have s1:=Q7 hd.top (by lia)
 have s2:=Q7 hd.bot (by lia)
 have s3:=Q7 bl (by lia)
 have s4:=Q7 b1 (by lia)
 have s5:=Q7 b2 (by lia)
 have s6:=Q7 b3 (by lia)
 have h1:(Jy sq h*d-n).natAbs<=10 ^ (k+k+1):=Nu (Qf b1 hd.bot) (Nat.le_trans hd.top (Vx (by lia)))
 have h2:(h*(Jy sq h*d-n)).natAbs<=10 ^ (k+(k+k+1)):=Qf b2 h1
 have h3:(h*(Jy sq h*d-n)*lap).natAbs<=10 ^ (k+(k+k+1)+k):=Qf h2 bl
 have hf:Fr (k+(k+k+1)+k+1) (due*d-h*(Jy sq h*d-n)*lap) d:=⟨hd.pos,Nu (Nat.le_trans (Qf b3 hd.bot) (Vx (by lia))) h3,Nat.le_trans hd.bot (Vx (by lia))⟩
 refine(Znh _ _ _ _).trans ?_
 refine Qb (go (Z1 (d:=.int (h*(Jy sq h*d-n))) (Zk rfl (Zk (Zk (Wn 0 rfl) (Zp rfl rfl (Yu _ _ _)) (gT s4 s2)) (Zp rfl rfl (Yx _ _)) rfl) (gT s5 (Q7 h1 (by lia))))) (Z6 (Z2 (aC (d:=.int (due*d-h*(Jy sq h*d-n)*lap)) ?_ (a1 (d:=.int d) (Zp rfl rfl (Yu _ _ _)))) (Ny hf (by lia)) rfl)))
 exact Zk (Zk rfl (Zp rfl rfl (Yu _ _ _)) (gT s6 s2)) (Zk rfl rfl (gT (Q7 h2 (by lia)) s3)) rfl
structure Po4 where
 a:Int
 b:Int
 c:Int
 d:Int
def Po4.D (p:Po4):D:=.tup [nD p.a p.b,nD p.c p.d]
structure PoOk (k:Nat) (p:Po4):Prop where
 x:Fr k p.a p.b
 y:Fr k p.c p.d
structure PIn (z:Nat) (p q:Int):Prop where
 fr:Fr 4 p q
 p0:0<p
 p1:p<(z:Int)*q
 g:Int.gcd p q=1
 nw:∀k:Int,k*q≠p
 q3:q<=1000
def Zhy {z:Nat}{t b:Int}(hb:2<=b)(hb':b<=1000)(h0:0<t)(h1:t<(z:Int)*b)(z8:z<=8)(hm:t%b≠0):∃p q,PIn z p q/\X8 [.int t,.int b]=.ok (.im (nD p q)):=by
 have p4:(10:Nat) ^ 4=10000:=rfl
 have wb:(z:Int)*b<=8*1000:=Int.mul_le_mul (by lia) hb' (by lia) (by lia)
 have hf:Fr 4 t b:=⟨by lia,by rw[p4];lia,by rw[p4];lia⟩
 have b0:0<b:=by lia
 obtain⟨p,q,el,q0,m,g,h3,h4⟩:=Ys (t:=t) b0
 refine⟨p,q,⟨⟨q0,by rw[p4];lia,by rw[p4];lia⟩,?_,?_,g,fun k e=>hm ?_,by lia⟩,by rw[Zhx hf (by decide),el]⟩
 ·have:0<p*b:=by rw[m];exact Int.mul_pos h0 q0
  exact Int.pos_of_mul_pos_left this b0
 ·have h3:=Int.mul_lt_mul_of_pos_right h1 q0
  rw[<-m,Int.mul_right_comm] at h3
  exact Int.lt_of_mul_lt_mul_right h3 (Int.le_of_lt b0)
 ·have:t*q=(k*b)*q:=by rw[<-m,<-e];grind
  have:=Int.eq_of_mul_eq_mul_right (by lia) this
  rw[this]
  exact Int.mul_emod_left k b
def Zdx {W:Nat}(hW:1<=W)(hW':W<=8)(a b:Int):∃p q,PIn W p q/\Vf [.int a,.int b,.int (W:Int)]=.ok (.im (nD p q)):=by
 have k0:=Int.emod_nonneg (a/1000) (show(4:Int)≠0 by decide)
 have k1:=Int.emod_lt_of_pos (a/1000) (show(0:Int)<4 by decide)
 obtain⟨m,hm,hm',em⟩:∃m:Int,4<=m/\m<=999/\Jg (.lst [.int 4,.int 8,.int 30,.int 999]) (.int (a/1000%4))=.ok (.int m):=by
  generalize a/1000%4=k at *
  have:k=0\/k=1\/k=2\/k=3:=by lia
  rcases this with rfl|rfl|rfl|rfl
  ·exact⟨4,by decide,by decide,rfl⟩
  ·exact⟨8,by decide,by decide,rfl⟩
  ·exact⟨30,by decide,by decide,rfl⟩
  ·exact⟨999,by decide,by decide,rfl⟩
 have r1:0<=a%m:=Int.emod_nonneg _ (by lia)
 have r2:a%m<m:=Int.emod_lt_of_pos _ (by lia)
 generalize hB:2+a%m=B
 have hB2:2<=B:=by lia
 have hB3:B<=1000:=by lia
 have wb1:1*B<=(W:Int)*B:=Int.mul_le_mul_of_nonneg_right (by lia) (by lia)
 have wb2:(W:Int)*B<=8*1000:=Int.mul_le_mul (by lia) hB3 (by lia) (by lia)
 have r3:0<=b%(W*B-1):=Int.emod_nonneg _ (by lia)
 have r4:b%(W*B-1)<W*B-1:=Int.emod_lt_of_pos _ (by lia)
 generalize hT:1+b%(W*B-1)=T
 have s1000:sm 1000=true:=Wl (by decide) (by decide)
 have sW:sm (W:Int)=true:=Wl (by lia) (by lia)
 have sB:sm B=true:=Wl (by lia) (by lia)
 have g1:∀r:List (Option S),Zn Qg ↑2 (Zn Q5 (Zd 0) (Zn Jg (Uv (Zc ↑4 (Zc ↑8 (Zc ↑30 (Zc ↑999 Zj))))) (Zn Q5 (Zn Yv (Zd 0) ↑1000) ↑4))) (Jo a::r)=.ok (.int B):=fun r=>by
  refine(Zk rfl (Zk rfl (Zk rfl (Zk (Zk rfl rfl (D3 (by decide) s1000)) rfl (gM (by decide))) em) (gM (by lia))) rfl).trans ?_
  show M.ok (D.int (2+a%m))=_
  rw[hB]
 have g2:∀r:List (Option S),Zn Qg ↑1 (Zn Q5 (Zd 1) (Zn DL.Vs (Zn Zs (Zd 2) (Zd 3)) ↑1)) (Jo a::Jo b::Jo (W:Int)::Jo B::r)=.ok (.int T):=fun r=>by
  refine(Zk rfl (Zk rfl (Zk (Zk rfl rfl (gT sW sB)) rfl rfl) (gM (by lia))) rfl).trans ?_
  show M.ok (D.int (1+b%(W*B-1)))=_
  rw[hT]
 have tt:DL.tB (Zn Jw (Zn Q5 (Zd 4) (Zd 3)) ↑0) [Jo a,Jo b,Jo (W:Int),Jo B,Jo T]=.ok (T%B==0):=Qm (Zk (Zk rfl rfl (gM (by lia))) rfl (X9 _ _))
 by_cases q:T%B=0
 ·have q':(T%B==0)=true:=by simp[q]
  rw[q'] at tt
  have tb:B<=T:=by
   have:=Int.emod_add_mul_ediv T B
   rw[q] at this
   have h0:0<T/B:=Int.pos_of_mul_pos_right (show 0<B*(T/B) by lia) (by lia)
   have:=Int.mul_le_mul_of_nonneg_left (show 1<=T/B by lia) (show 0<=B by lia)
   lia
  have nm:(T-1)%B≠0:=fun z=>by
   have h1:=Int.sub_emod T 1 B
   rw[z,q,Int.emod_eq_of_lt (show(0:Int)<=1 by decide) (show 1<B by lia)] at h1
   have:(0-1)%B=B-1:=by
    rw[show(0-1:Int)=(B-1)+B*(-1) by lia,Int.add_mul_emod_self_left,Int.emod_eq_of_lt (by lia) (by lia)]
   lia
  obtain⟨p,z,n,e⟩:=Zhy (z:=W) hB2 hB3 (show 0<T-1 by lia) (by lia) hW' nm
  exact⟨p,z,n,(Zgq _ _ _ _ _).trans (Qb (go (Z1 (g1 _)) (go (Z1 (g2 _)) (go (Qp tt (Z1 (Zk rfl rfl rfl))) (Z6 (Z2 (aC rfl (Law.a1 rfl)) e rfl))))))⟩
 ·have q':(T%B==0)=false:=by simp[q]
  rw[q'] at tt
  obtain⟨p,z,n,e⟩:=Zhy (z:=W) hB2 hB3 (show 0<T by lia) (by lia) hW' q
  exact⟨p,z,n,(Zgq _ _ _ _ _).trans (Qb (go (Z1 (g1 _)) (go (Z1 (g2 _)) (go (Z0 tt) (Z6 (Z2 (aC rfl (Law.a1 rfl)) e rfl))))))⟩
structure PtOk (W H:Nat) (p:Po4):Prop where
 x:PIn W p.a p.b
 y:PIn H p.c p.d
def PtOk.ok {W H:Nat}{p:Po4}(h:PtOk W H p):PoOk 4 p:=⟨h.x.fr,h.y.fr⟩
def Fk (p q:Po4):D.eq p.D q.D=true↔p=q:=by
 cases p;cases q
 simp[Po4.D,nD,D.eq,D.eqs]
 constructor
 ·rintro⟨⟨a,b⟩,c,d⟩;exact⟨a,b,c,d⟩
 ·rintro⟨a,b,c,d⟩;exact⟨⟨a,b⟩,c,d⟩
def Zdy (p:Po4)(ps:List Po4):D1 p.D (ps.map Po4.D)=true↔p∈ps:=by
 unfold D1
 rw[List.any_map,List.any_eq_true]
 constructor
 ·rintro⟨q,hq,e⟩
  rw[<-(Fk q p).mp e];exact hq
 ·intro h
  exact⟨p,h,(Fk p p).mpr rfl⟩
def cz (ns:List Int)(k:Nat):Int:=(ns[k]?).getD 0
def P0 (ns:List Int)(k:Nat)(hl:ns.length<=63):Q2 [.lst (ns.map D.int),.int (k:Int)]=.ok (.im (.int (cz ns k))):=by
 have c:DL.tB (Zn T7 (Zd 1) (Jx Vz (Zc (Zd 0) Zj))) [Io (.lst (ns.map D.int)),Jo (k:Int)]=.ok (decide (k<ns.length)):=by
  refine Qm (Zk (x:=.int (k:Int)) (y:=.int (ns.length:Int)) rfl (Xv (Law.a1 rfl) (by rw[Ab,List.length_map])) ?_)
  show M.ok (D.bl (decide ((k:Int)<(ns.length:Int))))=_
  congr 2
  rw[Bool.eq_iff_iff]
  simp
 unfold cz
 by_cases h:k<ns.length
 ·rw[decide_eq_true h] at c
  rw[List.getElem?_eq_getElem h]
  have e:(ns.map D.int)[k]?=some (.int ns[k]):=by rw[List.getElem?_map,List.getElem?_eq_getElem h];rfl
  generalize ns.map D.int=N at *
  exact(Zdp _ _ _ _).trans (Qb (Yy (Qp c (Z6 (Nv (i:=(k:Int)) rfl rfl (Ke e))))))
 ·rw[decide_eq_false h] at c
  rw[List.getElem?_eq_none (by lia)]
  generalize ns.map D.int=N at *
  exact(Zdp _ _ _ _).trans (Qb (go (Z0 c) (Z6 rfl)))
noncomputable def Zmv:Zf->M O:=(Zu (Ca (L5 (Zd 4) (Xd (Zn Zs ↑4 (Zd 6))) (Xd (Zn Qg (Zn Zs ↑4 (Zd 6)) ↑4))) (Gy 4 (Yk (Yw 7) (Yk (Yw 8) (Yk (Yw 9) (Yk (Yw 10) P9))))))
   (Zu (Z8 11 (Qn (Zc (Zv Vf (Zc (Zd 7) (Zc (Zd 8) (Zc (Zd 2) Zj)))) (Zc (Zv Vf (Zc (Zd 9) (Zc (Zd 10) (Zc (Zd 3) Zj)))) Zj))))
   (Jf (W0 5 (DL.tB (Zn Pg (Zd 11) (Zd 5)))) (K8 5 (Zd 11)) Q8)))
def Zom (es:List Int)(k:Nat)(h:4*k+4<=es.length):∃a b c d:Int,Ej (es.map D.int) (some ((4*k:Nat):Int)) (some ((4*k+4:Nat):Int))=[.int a,.int b,.int c,.int d]:=by
 unfold Ej
 rw[HT.sIx_nat,HT.sIx_nat,List.length_map,Nat.min_eq_left (by lia),Nat.min_eq_left (by lia),<-List.map_drop,<-List.map_take,show 4*k+4-4*k=4 by lia]
 have hl:((es.drop (4*k)).take 4).length=4:=by rw[List.length_take,List.length_drop];lia
 generalize (es.drop (4*k)).take 4=l at hl
 match l,hl with
 |[a,b,c,d],_=>exact⟨a,b,c,d,rfl⟩
def Zgw (v0 v1:Option S){W H:Nat}(hW:1<=W)(hW':W<=8)(hH:1<=H)(hH':H<=8){es:List Int}(k:Nat)(he:4*k+4<=es.length)(hk:k<=100)(ps:List Po4)(hp:∀p∈ps,PtOk W H p)(nd:ps.Nodup)(hl:ps.length<=900)(v7 v8 v9 v10 v11:Option S):
  ∃(ps':List Po4) (w7 w8 w9 w10 w11:Option S),(∀p∈ps',PtOk W H p)/\ps'.Nodup/\ps'.length<=ps.length+1/\1<=ps'.length/\Zmv [v0,v1,Jo (W:Int),Jo (H:Int),Io (.lst (es.map D.int)),some (.ow (ps.map Po4.D)),Jo (k:Int),v7,v8,v9,v10,v11] =
   .ok (.nx [v0,v1,Jo (W:Int),Jo (H:Int),Io (.lst (es.map D.int)),some (.ow (ps'.map Po4.D)),Jo (k:Int),w7,w8,w9,w10,w11]):=by
 obtain⟨a,b,c,d,ec⟩:=Zom es k he
 obtain⟨p1,q1,n1,e1⟩:=Zdx hW hW' a b
 obtain⟨p2,q2,n2,e2⟩:=Zdx hH hH' c d
 have s4:sm 4=true:=Wl (by decide) (by decide)
 have sk:sm (k:Int)=true:=Wl (by lia) (by lia)
 have g4:Zs (.int 4) (.int (k:Int))=.ok (.int ((4*k:Nat):Int)):=by rw[gT s4 sk];congr 2
 generalize es.map D.int=ds at ec ⊢
 have sl:L5 (Zd 4) (Xd (Zn Zs ↑4 (Zd 6))) (Xd (Zn Qg (Zn Zs ↑4 (Zd 6)) ↑4)) [v0,v1,Jo (W:Int),Jo (H:Int),Io (.lst ds),some (.ow (ps.map Po4.D)),Jo (k:Int),v7,v8,v9,v10,v11]=.ok (.lst [.int a,.int b,.int c,.int d]):=by
  unfold L5
  show(Xd (Zn Zs ↑4 (Zd 6)) _).bind _=_
  unfold Xd
  rw[Zk (x:=.int 4) (y:=.int (k:Int)) rfl rfl g4,M.bind_ok]
  dsimp only
  rw[M.bind_ok,Zk (x:=.int ((4*k:Nat):Int)) (y:=.int 4) (Zk (x:=.int 4) (y:=.int (k:Int)) rfl rfl g4) rfl rfl]
  show M.ok (D.lst (Ej ds (some ((4*k:Nat):Int)) (some (((4*k:Nat):Int)+4))))=_
  rw[show((4*k:Nat):Int)+4=((4*k+4:Nat):Int) by lia,ec]
 have st:W0 5 (DL.tB (Zn Pg (Zd 11) (Zd 5))) [v0,v1,Jo (W:Int),Jo (H:Int),Io (.lst ds),some (.ow (ps.map Po4.D)),Jo (k:Int),Jo a,Jo b,Jo c,Jo d,Io (Po4.D ⟨p1,q1,p2,q2⟩)]=.ok (!D1 (Po4.D ⟨p1,q1,p2,q2⟩) (ps.map Po4.D)):=by
  refine Aa ?_
  refine Qm (Zk (x:=Po4.D ⟨p1,q1,p2,q2⟩) (y:=.lst (ps.map Po4.D)) rfl rfl ?_)
  have:D.deps (ps.map Po4.D)<=5:=Uq fun d hd=>by
   obtain⟨q,_,rfl⟩:=List.mem_map.mp hd
   simp[Po4.D,nD,D.dep,D.deps]
  exact if_pos (by lia)
 have pre:∀r,(Jf (W0 5 (DL.tB (Zn Pg (Zd 11) (Zd 5)))) (K8 5 (Zd 11)) Q8) [v0,v1,Jo (W:Int),Jo (H:Int),Io (.lst ds),some (.ow (ps.map Po4.D)),Jo (k:Int),Jo a,Jo b,Jo c,Jo d,Io (Po4.D ⟨p1,q1,p2,q2⟩)]=r->Zmv [v0,v1,Jo (W:Int),Jo (H:Int),Io (.lst ds),some (.ow (ps.map Po4.D)),Jo (k:Int),v7,v8,v9,v10,v11]=r:=fun r hr=>by
  unfold Zmv
  refine go (sd':=[v0,v1,Jo (W:Int),Jo (H:Int),Io (.lst ds),some (.ow (ps.map Po4.D)),Jo (k:Int),Jo a,Jo b,Jo c,Jo d,v11]) ?_ (go (Z1 (Uz (Z2 (aC rfl (aC rfl (Law.a1 rfl))) e1 rfl) (Z2 (aC rfl (aC rfl (Law.a1 rfl))) e2 rfl))) hr)
  unfold Ca
  rw[sl]
  rfl
 cases q:D1 (Po4.D ⟨p1,q1,p2,q2⟩) (ps.map Po4.D) with
 |false=>
  rw[q] at st
  have ni:(⟨p1,q1,p2,q2⟩:Po4) ∉ ps:=fun z=>by rw[(Zdy _ _).mpr z] at q;cases q
  refine⟨ps++[⟨p1,q1,p2,q2⟩],Jo a,Jo b,Jo c,Jo d,Io (Po4.D ⟨p1,q1,p2,q2⟩),fun p hm=>?_,?_,by rw[List.length_append,List.length_singleton];lia,by rw[List.length_append,List.length_singleton];lia,pre _ (Qp st ?_)⟩
  ·rcases List.mem_append.mp hm with z|z
   ·exact hp p z
   ·rw[show p=⟨p1,q1,p2,q2⟩ by simpa using z];exact⟨n1,n2⟩
  ·refine List.nodup_append.mpr ⟨nd,by simp,fun a ha b hb=>?_⟩
   rw[List.mem_singleton.mp hb]
   exact fun z=>ni (z▸ha)
  ·rw[List.map_append]
   exact Pz rfl rfl (by rw[List.length_map];lia)
 |true=>
  rw[q] at st
  have hm:=(Zdy _ _).mp q
  exact⟨ps,_,_,_,_,_,hp,nd,by lia,List.length_pos_of_mem hm,pre _ (Z0 st)⟩
theorem Ib (v0 v1:Option S){W H:Nat}(hW:1<=W)(hW':W<=8)(hH:1<=H)(hH':H<=8){es:List Int}{n:Nat}(he:es.length=4*n)(hn:n<=8):∀(ks:List Nat) (ps:List Po4) (v6 v7 v8 v9 v10 v11:Option S),(∀k∈ks,k<n)->(∀p∈ps,PtOk W H p)->ps.Nodup->ps.length+ks.length<=900 ->
  ∃(ps':List Po4) (w6 w7 w8 w9 w10 w11:Option S),(∀p∈ps',PtOk W H p)/\ps'.Nodup/\ps'.length<=ps.length+ks.length/\(ks≠[]\/ps≠[]->1<=ps'.length)/\Y1 (Yw 6) Zmv (ks.map fun(k:Nat)=>D.int (k:Int)) [v0,v1,Jo (W:Int),Jo (H:Int),Io (.lst (es.map D.int)),some (.ow (ps.map Po4.D)),v6,v7,v8,v9,v10,v11] =
   .ok (.nx [v0,v1,Jo (W:Int),Jo (H:Int),Io (.lst (es.map D.int)),some (.ow (ps'.map Po4.D)),w6,w7,w8,w9,w10,w11])
 |[],ps,v6,v7,v8,v9,v10,v11,_,hp,nd,_=>⟨ps,v6,v7,v8,v9,v10,v11,hp,nd,by lia,fun z=>by
   rcases z with z|z
   ·exact absurd rfl z
   ·cases ps with
    |nil=>exact absurd rfl z
    |cons=>simp,rfl⟩
 |k::ks,ps,v6,v7,v8,v9,v10,v11,hk,hp,nd,hl=>by
  rw[List.length_cons] at hl
  have:=hk k (by simp)
  obtain⟨p1,a7,a8,a9,a10,a11,h1,nd1,l1,g1,e1⟩:=Zgw v0 v1 hW hW' hH hH' k (es:=es) (by lia) (by lia) ps hp nd (by lia) v7 v8 v9 v10 v11
  obtain⟨p2,w6,w7,w8,w9,w10,w11,h2,nd2,l2,g2,e2⟩:=Ib v0 v1 hW hW' hH hH' he hn ks p1 (Jo (k:Int)) a7 a8 a9 a10 a11 (fun j hj=>hk j (by simp[hj])) h1 nd1 (by lia)
  refine⟨p2,w6,w7,w8,w9,w10,w11,h2,nd2,by rw[List.length_cons];lia,fun _=>g2 (.inr fun z=>by rw[z] at g1;simp at g1),?_⟩
  rw[List.map_cons]
  exact(Q0 (sd1:=[v0,v1,Jo (W:Int),Jo (H:Int),Io (.lst (es.map D.int)),some (.ow (ps.map Po4.D)),Jo (k:Int),v7,v8,v9,v10,v11]) rfl e1).trans e2
def Zdz (c:Int){n W H:Nat}(n0:1<=n)(n1:n<=8)(hW:1<=W)(hW':W<=8)(hH:1<=H)(hH':H<=8):∃ps:List Po4,(∀p∈ps,PtOk W H p)/\ps.Nodup/\ps.length<=n/\1<=ps.length/\Uo [.int c,.int (n:Int),.int (W:Int),.int (H:Int)]=.ok (.ow (ps.map Po4.D)):=by
 obtain⟨es,hes,_,en⟩:=Mr c (4*n) (by lia)
 obtain⟨ps,w6,w7,w8,w9,w10,w11,hp,nd,hl,g,e⟩:=Ib (Jo c) (Jo (n:Int)) hW hW' hH hH' hes n1 (List.range n) [] none none none none none none (fun k hk=>List.mem_range.mp hk) (fun p hp=>by cases hp) List.nodup_nil (by simp;lia)
 refine⟨ps,hp,nd,by simpa using hl,g (.inl (by intro z;have:=congrArg List.length z;simp at this;lia)),(Zmp _ _ _ _ _ _).trans (Qb (go (Z1 (Z2 (aC rfl (Law.a1 (d:=.int ((4*n:Nat):Int)) ?_)) en rfl)) (go (Jt 5 _) (go (f:=Xr _ (Yw 6) Zmv) ((Q3 (Zk4 (n:=n) (Law.a1 rfl) (by lia))).trans e) rfl))))⟩
 refine Zk (x:=.int 4) (y:=.int (n:Int)) rfl rfl ?_
 rw[gT (Wl (by decide) (by decide)) (Wl (by lia) (by lia))]
 congr 2
structure Tk where
 n:Int
 m:Int
 sq:Int
 h:Int
 due:Int
 lap:Int
def Tk.r (t:Tk):Qw:=trk (nD t.n t.m) t.sq t.h t.due t.lap
def Tk.line (t:Tk):Int:=Jy t.sq t.h
structure TB (k:Nat) (t:Tk):Prop where
 fr:Fr k t.n t.m
 li:t.line.natAbs<=10 ^ k
 h:t.h.natAbs<=10 ^ k
 due:t.due.natAbs<=10 ^ k
 lap:t.lap.natAbs<=10 ^ k
def Tk.tm (t:Tk)(n d:Int):Int:=t.due*d-t.h*(t.line*d-n)*t.lap
def Fl (a b:Int):(nD a b).dep<=60:=by simp[nD,D.dep,D.deps]
def Ac (a b:Int):(Qq a b).dep<=60:=Fl _ _
def Ic (a b c d:Int):D.eq (nD a b) (nD c d)=decide (a=c/\b=d):=by
 simp only[nD,D.eq,D.eqs]
 by_cases h1:a=c<;>by_cases h2:b=d<;>simp[h1,h2]
def Zd0 {t b t' b':Int}(hb:0<b)(hb':0<b'):D.eq (Qq t b) (Qq t' b')=decide (t*b'=t'*b):=by
 have:=Zgu (t:=t) (t':=t') hb hb'
 unfold Qq at this ⊢
 rw[Ic]
 refine decide_eq_decide.mpr ?_
 rw[<-this]
 unfold nD
 constructor
 ·rintro⟨h1,h2⟩;rw[h1,h2]
 ·intro h
  injection h with h
  injection h with h1 h
  injection h with h2 _
  injection h1 with h1
  injection h2 with h2
  exact⟨h1,h2⟩
noncomputable def Zhz:Zf->M O:=Jf (DL.tB (Zn Ww (Q4 4 "Track" "heading") ↑0)) (K8 3 (Xj 4 "Track" "time_at" K3 (Zc (Zd 5) Zj)))
   (Jf (DL.tB (Zn Ww (Zd 5) (Q4 4 "Track" "begin"))) (Qv (eC .non)) Q8)
def Zh0 {k:Nat}{a:Addr}{t:Tk}(o0 o1 o2:Option S)(ts:List D){n d:Int}(hb:TB k t)(hd:Fr k n d)(hk:k<=100)(hh:t.h≠0)(hl:ts.length<=10):
  Zhz [o0,o1,o2,some (.ow ts),some (.ob a "Track" t.r),Io (nD n d)]=.ok (.nx [o0,o1,o2,some (.ow (ts++[Qq (t.tm n d) d])),some (.ob a "Track" t.r),Io (nD n d)]):=by
 refine Qp (Qm (Zk rfl rfl (show Ww (.int t.h) (.int 0)=.ok (.bl true) by rw[Wm (by simp[D.dep])];simp[D.eq,hh]))) (Pz rfl ?_ (by lia))
 unfold Xj
 simp only[List.getElem?_cons_succ,List.getElem?_cons_zero]
 rw[if_pos ⟨trivial,rfl⟩]
 show Nj (K3 [.ob a "Track" (trk (nD t.n t.m) t.sq t.h t.due t.lap),.im (nD n d)])=_
 rw[Zax a (nD t.n t.m) hd hb.lap hb.li hb.h hb.due hk]
 rfl
def Df {a:Addr}{t:Tk}(o0 o1 o2:Option S)(ts:List D){n d:Int}(hh:t.h=0)(he:n=t.n/\d=t.m):
  Zhz [o0,o1,o2,some (.ow ts),some (.ob a "Track" t.r),Io (nD n d)]=.ok (.nx [o0,o1,o2,some (.ow ts),some (.ob a "Track" t.r),Io (nD n d)]):=by
 refine Hw (Qm (Zk rfl rfl (show Ww (.int t.h) (.int 0)=.ok (.bl false) by rw[Wm (by simp[D.dep])];simp[D.eq,hh]))) (Z0 (Qm (Zk rfl rfl (show Ww (nD n d) (nD t.n t.m)=.ok (.bl false) by rw[Wm (Fl _ _),Ic,decide_eq_true he];rfl))))
def Zd1 {a:Addr}{t:Tk}(o0 o1 o2:Option S)(ts:List D){n d:Int}(hh:t.h=0)(he:¬(n=t.n/\d=t.m)):
  Zhz [o0,o1,o2,some (.ow ts),some (.ob a "Track" t.r),Io (nD n d)]=.ok (.rt (.im .non)):=by
 refine Hw (Qm (Zk rfl rfl (show Ww (.int t.h) (.int 0)=.ok (.bl false) by rw[Wm (by simp[D.dep])];simp[D.eq,hh]))) (Qp (Qm (Zk rfl rfl (show Ww (nD n d) (nD t.n t.m)=.ok (.bl true) by rw[Wm (Fl _ _),Ic,decide_eq_false he];rfl))) (Z6 rfl))
inductive At (t u:Tk) (p:Po4):Int->Int->Prop
 |two:t.h≠0->u.h≠0->t.tm p.a p.b*p.d=u.tm p.c p.d*p.b->At t u p (t.tm p.a p.b) p.b
 |one:t.h≠0->u.h=0->p.c=u.n/\p.d=u.m->At t u p (t.tm p.a p.b) p.b
 |oth:t.h=0->p.a=t.n/\p.b=t.m->u.h≠0->At t u p (u.tm p.c p.d) p.d
def Dg (a b:Int):D.eq (Qq a b) (Qq a b)=true:=by
 unfold Qq
 rw[Ic,decide_eq_true ⟨rfl,rfl⟩]
def Zmw (x:D):N2 [x] (-1)=some x:=rfl
def Zh1 (x y:D):N2 [x,y] (-1)=some y:=rfl
noncomputable def Zov:Zf->M O:=Bh 3 (Qv (Ao (DL.tB (Zn Jw 3[0]! (Zn Jg (Zd 3) (F6 S0 ↑1)))) 3[0]! (eC .non)))
def Zmx (o0 o1 o2 o4 o5:Option S)(a b:Int):Zov [o0,o1,o2,some (.ow [Qq a b]),o4,o5]=.ok (.rt (.im (Qq a b))):=by
 refine Nx (Z6 (Rl (Qm (Zk (Nv rfl rfl (Yx _ _)) (Nv rfl rfl (Zmw _)) (by rw[Jd (Ac _ _),Dg]))) (Nv rfl rfl (Yx _ _))))
def Zon (o0 o1 o2 o4 o5:Option S){a b c d:Int}(hb:0<b)(hd:0<d):Zov [o0,o1,o2,some (.ow [Qq a b,Qq c d]),o4,o5]=.ok (.rt (.im (if a*d=c*b then Qq a b else .non))):=by
 by_cases h:a*d=c*b
 ·rw[if_pos h]
  exact Nx (Z6 (Rl (Qm (Zk (Nv rfl rfl (Yx _ _)) (Nv rfl rfl (Zh1 _ _)) (by rw[Jd (Ac _ _),Zd0 hb hd,decide_eq_true h]))) (Nv rfl rfl (Yx _ _))))
 ·rw[if_neg h]
  exact Nx (Z6 (Tu (Qm (Zk (Nv rfl rfl (Yx _ _)) (Nv rfl rfl (Zh1 _ _)) (by rw[Jd (Ac _ _),Zd0 hb hd,decide_eq_false h]))) rfl))
def Zgx {it ip i1 i2:Nat}{f1 f2:Zf->M D}{f:Zf->M O}{sd s1 s2:Zf}{o1 o2:S}{d1 d2:D}(e1:sd[i1]?=some (some o1))(e2:sd[i2]?=some (some o2))(h1:W7 o1=true)(h2:W7 o2=true)(g1:f1 sd=.ok d1)(g2:f2 sd=.ok d2)(k1:f ((sd.set it (some o1)).set ip (Io d1))=.ok (.nx s1)){r:M O}(k2:f ((s1.set it (some o2)).set ip (Io d2))=r)(hr:(∃s2,r=.ok (.nx s2))\/∃s,r=.ok (.rt s)):Nl it ip i1 i2 f1 f2 f sd=r:=by
 unfold Nl
 rw[e1,e2]
 show(if(W7 o1&&W7 o2)=true then _ else _)=_
 rw[h1,h2,if_pos (show(true&&true)=true from rfl),g1]
 show(f2 sd).bind _=_
 rw[g2]
 show Vl it ip f [(o1,d1),(o2,d2)] sd=_
 unfold Vl
 rw[k1]
 show Vl it ip f [(o2,d2)] s1=_
 unfold Vl
 rw[k2]
 rcases hr with⟨s2,rfl⟩|⟨s,rfl⟩
 ·rfl
 ·rfl
def Zgy {it ip i1 i2:Nat}{f1 f2:Zf->M D}{f:Zf->M O}{sd:Zf}{o1 o2:S}{d1 d2:D}{s:S}(e1:sd[i1]?=some (some o1))(e2:sd[i2]?=some (some o2))(h1:W7 o1=true)(h2:W7 o2=true)(g1:f1 sd=.ok d1)(g2:f2 sd=.ok d2)(k1:f ((sd.set it (some o1)).set ip (Io d1))=.ok (.rt s)):Nl it ip i1 i2 f1 f2 f sd=.ok (.rt s):=by
 unfold Nl
 rw[e1,e2]
 show(if(W7 o1&&W7 o2)=true then _ else _)=_
 rw[h1,h2,if_pos (show(true&&true)=true from rfl),g1]
 show(f2 sd).bind _=_
 rw[g2]
 show Vl it ip f [(o1,d1),(o2,d2)] sd=_
 unfold Vl
 rw[k1]
 rfl
section
variable {k:Nat}{a1 a2:Addr}{t u:Tk}{p:Po4}
def Ad {s1:Zf}{r:M O} (k1:Zhz [some (.ob a1 "Track" t.r),some (.ob a2 "Track" u.r),Io p.D,some (.ow []),some (.ob a1 "Track" t.r),Io (nD p.a p.b)]=.ok (.nx s1)) (k2:Zhz ((s1.set 4 (some (.ob a2 "Track" u.r))).set 5 (Io (nD p.c p.d)))=r) (hr:(∃s2,r=.ok (.nx s2))\/∃s,r=.ok (.rt s)):
  Nl 4 5 0 1 2[0]! 2[1]! Zhz [some (.ob a1 "Track" t.r),some (.ob a2 "Track" u.r),Io p.D,some (.ow []),none,none]=r:=
 Zgx (s2:=[]) (sd:=[some (.ob a1 "Track" t.r),some (.ob a2 "Track" u.r),Io p.D,some (.ow []),none,none]) (o1:=.ob a1 "Track" t.r) (o2:=.ob a2 "Track" u.r) (d1:=nD p.a p.b) (d2:=nD p.c p.d) rfl rfl rfl rfl (Zp rfl rfl (Yx _ _)) (Zp rfl rfl (Yu _ _ _)) k1 k2 hr
def Zgz {s:S} (k1:Zhz [some (.ob a1 "Track" t.r),some (.ob a2 "Track" u.r),Io p.D,some (.ow []),some (.ob a1 "Track" t.r),Io (nD p.a p.b)]=.ok (.rt s)):
  Nl 4 5 0 1 2[0]! 2[1]! Zhz [some (.ob a1 "Track" t.r),some (.ob a2 "Track" u.r),Io p.D,some (.ow []),none,none]=.ok (.rt s):=
 Zgy (sd:=[some (.ob a1 "Track" t.r),some (.ob a2 "Track" u.r),Io p.D,some (.ow []),none,none]) (o1:=.ob a1 "Track" t.r) (o2:=.ob a2 "Track" u.r) (d1:=nD p.a p.b) (d2:=nD p.c p.d) rfl rfl rfl rfl (Zp rfl rfl (Yx _ _)) (Zp rfl rfl (Yu _ _ _)) k1
def Mu (ht:TB k t)(hu:TB k u)(hp:PoOk k p)(hk:k<=100)(hm:t.h≠0\/u.h≠0):∃d,F_time_to [.ob a1 "Track" t.r,.ob a2 "Track" u.r,.im p.D]=.ok (.im d)/\((d=.non/\∀x y,¬At t u p x y)\/∃x y,At t u p x y/\d=Qq x y):=by
 have tA:=@Zh0 k a1 t (some (.ob a1 "Track" t.r)) (some (.ob a2 "Track" u.r)) (Io p.D) [] p.a p.b ht hp.x hk
 have tB:=@Zh0 k a2 u (some (.ob a1 "Track" t.r)) (some (.ob a2 "Track" u.r)) (Io p.D)
 by_cases h1:t.h=0
 ·have h2:u.h≠0:=hm.resolve_left (fun z=>z h1)
  by_cases he:p.a=t.n/\p.b=t.m
  ·refine⟨Qq (u.tm p.c p.d) p.d,(Zmu _ _ _ _ _).trans (Qb (go (Jt 3 _) (go (Ad (Df _ _ _ [] h1 he) (tB [] hu hp.y hk h2 (by decide)) (.inl ⟨_,rfl⟩)) (Zmx _ _ _ _ _ _ _)))),.inr ⟨_,_,.oth h1 he h2,rfl⟩⟩
  ·refine⟨.non,(Zmu _ _ _ _ _).trans (Qb (go (Jt 3 _) (Yy (Zgz (Zd1 _ _ _ [] h1 he))))),.inl ⟨rfl,fun x y h=>?_⟩⟩
   cases h with
   |two a b c=>exact a h1
   |one a b c=>exact a h1
   |oth a b c=>exact he b
 ·by_cases h2:u.h=0
  ·by_cases he:p.c=u.n/\p.d=u.m
   ·refine⟨Qq (t.tm p.a p.b) p.b,(Zmu _ _ _ _ _).trans (Qb (go (Jt 3 _) (go (Ad (tA h1 (by decide)) (Df _ _ _ _ h2 he) (.inl ⟨_,rfl⟩)) (Zmx _ _ _ _ _ _ _)))),.inr ⟨_,_,.one h1 h2 he,rfl⟩⟩
   ·refine⟨.non,(Zmu _ _ _ _ _).trans (Qb (go (Jt 3 _) (Yy (Ad (tA h1 (by decide)) (Zd1 _ _ _ _ h2 he) (.inr ⟨_,rfl⟩))))),.inl ⟨rfl,fun x y h=>?_⟩⟩
    cases h with
    |two a b c=>exact b h2
    |one a b c=>exact he c
    |oth a b c=>exact h1 a
  ·refine⟨_,(Zmu _ _ _ _ _).trans (Qb (go (Jt 3 _) (go (Ad (tA h1 (by decide)) (tB _ hu hp.y hk h2 (by simp)) (.inl ⟨_,rfl⟩)) (Zon _ _ _ _ _ hp.x.pos hp.y.pos)))),?_⟩
   by_cases he:t.tm p.a p.b*p.d=u.tm p.c p.d*p.b
   ·rw[if_pos he]
    exact .inr ⟨_,_,.two h1 h2 he,rfl⟩
   ·rw[if_neg he]
    refine .inl ⟨rfl,fun x y h=>?_⟩
    cases h with
    |two a b c=>exact he c
    |one a b c=>exact h2 b
    |oth a b c=>exact h1 a
end
def Ju (t u:Tk)(p:Po4):Option (Int×Int):=
 if t.h≠0 then(if u.h≠0 then(if t.tm p.a p.b*p.d=u.tm p.c p.d*p.b then some (t.tm p.a p.b,p.b) else none) else if p.c=u.n/\p.d=u.m then some (t.tm p.a p.b,p.b) else none)
 else if p.a=t.n/\p.b=t.m then some (u.tm p.c p.d,p.d) else none
def tD:Option (Int×Int)->D
 |some xy=>Qq xy.1 xy.2
 |none=>.non
def Zg0 {k:Nat}{a1 a2:Addr}{t u:Tk}{p:Po4}(ht:TB k t)(hu:TB k u)(hp:PoOk k p)(hk:k<=100)(hm:t.h≠0\/u.h≠0):F_time_to [.ob a1 "Track" t.r,.ob a2 "Track" u.r,.im p.D]=.ok (.im (tD (Ju t u p))):=by
 obtain⟨d,e,h⟩:=Mu (a1:=a1) (a2:=a2) ht hu hp hk hm
 rw[e]
 congr 2
 unfold Ju
 rcases h with⟨rfl,h⟩|⟨x,y,h,rfl⟩
 ·by_cases h1:t.h=0
  ·have h2:=hm.resolve_left (fun z=>z h1)
   rw[if_neg (fun z=>z h1)]
   by_cases he:p.a=t.n/\p.b=t.m
   ·exact absurd (.oth h1 he h2) (h _ _)
   ·rw[if_neg he];rfl
  ·rw[if_pos h1]
   by_cases h2:u.h=0
   ·rw[if_neg (fun z=>z h2)]
    by_cases he:p.c=u.n/\p.d=u.m
    ·exact absurd (.one h1 h2 he) (h _ _)
    ·rw[if_neg he];rfl
   ·rw[if_pos h2]
    by_cases he:t.tm p.a p.b*p.d=u.tm p.c p.d*p.b
    ·exact absurd (.two h1 h2 he) (h _ _)
    ·rw[if_neg he];rfl
 ·cases h with
  |two a b c=>rw[if_pos a,if_pos b,if_pos c];rfl
  |one a b c=>rw[if_pos a,if_neg (fun z=>z b),if_pos c];rfl
  |oth a b c=>rw[if_neg (fun z=>z a),if_pos b];rfl
def Zd2 {k:Nat}{t:Tk}{n d:Int}(ht:TB k t)(h:Fr k n d):Fr (k+(k+k+1)+k+1) (t.tm n d) d:=by
 have h1:(t.line*d-n).natAbs<=10 ^ (k+k+1):=Nu (Qf ht.li h.bot) (Nat.le_trans h.top (Vx (by lia)))
 have h3:(t.h*(t.line*d-n)*t.lap).natAbs<=10 ^ (k+(k+k+1)+k):=Qf (Qf ht.h h1) ht.lap
 exact⟨h.pos,Nu (Nat.le_trans (Qf ht.due h.bot) (Vx (by lia))) h3,Nat.le_trans h.bot (Vx (by lia))⟩
def Id {k:Nat}{t u:Tk}{p:Po4}{xy:Int×Int}(ht:TB k t)(hu:TB k u)(hp:PoOk k p)(h:Ju t u p=some xy):Fr (k+(k+k+1)+k+1) xy.1 xy.2:=by
 unfold Ju at h
 split at h
 ·split at h
  ·split at h
   ·cases h;exact Zd2 ht hp.x
   ·cases h
  ·split at h
   ·cases h;exact Zd2 ht hp.x
   ·cases h
 ·split at h
  ·cases h;exact Zd2 hu hp.y
  ·cases h
abbrev Zd3:=Option (Po4×Int×Int)
def Je (c:Po4->Option (Int×Int))(s:Zd3)(p:Po4):Zd3:=match c p with
 |none=>s
 |some (x,y)=>match s with
  |none=>some (p,x,y)
  |some (q,x',y')=>if x*y'<x'*y then some (p,x,y) else some (q,x',y')
def Yg (c:Option (Int×Int))(lo hi:Int):Option (Int×Int):=match c with
 |some (x,y)=>if lo*y<x/\x<hi*y then some (x,y) else none
 |none=>none
def Gi {c:Option (Int×Int)}{lo hi x y:Int}(h:c=some (x,y))(a:lo*y<x/\x<hi*y):Yg c lo hi=some (x,y):=by rw[h];exact if_pos a
def Ur {c:Option (Int×Int)}{lo hi x y:Int}(h:c=some (x,y))(a:¬(lo*y<x/\x<hi*y)):Yg c lo hi=none:=by rw[h];exact if_neg a
def Kc {c:Po4->Option (Int×Int)}{s:Zd3}{p:Po4}(h:c p=none):Je c s p=s:=by unfold Je;rw[h]
def Mv {c:Po4->Option (Int×Int)}{p:Po4}{x y:Int}(h:c p=some (x,y)):Je c none p=some (p,x,y):=by unfold Je;rw[h]
def Dh {c:Po4->Option (Int×Int)}{p q:Po4}{x y x' y':Int}(h:c p=some (x,y))(hl:x*y'<x'*y):Je c (some (q,x',y')) p=some (p,x,y):=by unfold Je;rw[h];exact if_pos hl
def Di {c:Po4->Option (Int×Int)}{p q:Po4}{x y x' y':Int}(h:c p=some (x,y))(hl:¬x*y'<x'*y):Je c (some (q,x',y')) p=some (q,x',y'):=by unfold Je;rw[h];exact if_neg hl
def Ll:Zd3->D
 |none=>.non
 |some (p,_,_)=>p.D
def Dj (wt:Int):Zd3->D
 |none=>nD wt 1
 |some (_,x,y)=>Qq x y
noncomputable def Zow:Zf->M O:=Zu (Z8 7 (S8 F_time_to (V1 1 (V1 2 (Ni (Zd 6) Mg)))))
   (Jf (tA (DL.tB (Zn Ks (Zd 7) (eC .non))) (tA (DL.tB (Zv Ky (Zc (Qn (Zc ↑0 (Zc ↑1 Zj))) (Zc (Zd 7) Zj)))) (DL.tB (Zv Ky (Zc (Zd 7) (Zc (Zd 5) Zj))))))
    (Zu (Z8 4 (Zd 6)) (Z8 5 (Zd 7))) Q8)
def Zmy (k:Nat):Zd3->Prop
 |none=>True
 |some (_,x,y)=>Fr k x y
section
variable {k:Nat}{ad1 ad2:Addr}{t u:Tk}{wt:Int}
def Zd4 (sd:Zf)(x y:Int)(e:sd[7]?=some (Io (Qq x y))):DL.tB (Zn Ks (Zd 7) (eC .non)) sd=.ok true:=by
 refine Qm (Zk (x:=Qq x y) (y:=.non) ?_ rfl rfl)
 unfold Zd;rw[e]
def Zg1 (fl:S)(ht:TB k t)(hu:TB k u)(hk:k<=60)(hm:t.h≠0\/u.h≠0)(hw:Fr k wt 1){p:Po4}(hp:PoOk k p){s:Zd3}(hs:Zmy (k+(k+k+1)+k+1) s)(hs':∀q x y,s=some (q,x,y)->x<wt*y)(v7:Option S):
  ∃w7,Zow [some fl,some (.ob ad1 "Track" t.r),some (.ob ad2 "Track" u.r),Jo wt,Io (Ll s),Io (Dj wt s),Io p.D,v7] =
   .ok (.nx [some fl,some (.ob ad1 "Track" t.r),some (.ob ad2 "Track" u.r),Jo wt,Io (Ll (Je (fun p=>Yg (Ju t u p) 0 wt) s p)),Io (Dj wt (Je (fun p=>Yg (Ju t u p) 0 wt) s p)),Io p.D,w7]):=by
 have e1:S8 F_time_to (V1 1 (V1 2 (Ni (Zd 6) Mg))) [some fl,some (.ob ad1 "Track" t.r),some (.ob ad2 "Track" u.r),Jo wt,Io (Ll s),Io (Dj wt s),Io p.D,v7]=.ok (tD (Ju t u p)):=by
  show Nj (F_time_to [.ob ad1 "Track" t.r,.ob ad2 "Track" u.r,.im p.D])=_
  rw[Zg0 ht hu hp (by lia) hm]
  rfl
 refine⟨Io (tD (Ju t u p)),go (Z1 e1) ?_⟩
 cases ev:Ju t u p with
 |none=>
  rw[Kc (show Yg (Ju t u p) 0 wt=none by rw[ev];rfl)]
  exact Z0 (Zat (Qm (Zk (g:=Ks) (x:=.non) (y:=.non) rfl rfl rfl)))
 |some xy=>
  obtain⟨x,y⟩:=xy
  have hf:=Id ht hu hp ev
  obtain⟨n,d,el,hnd,em,_⟩:=Fj hf
  have b0:DL.tB (Zv Ky (Zc (Qn (Zc ↑0 (Zc ↑1 Zj))) (Zc (Zd 7) Zj))) [some fl,some (.ob ad1 "Track" t.r),some (.ob ad2 "Track" u.r),Jo wt,Io (Ll s),Io (Dj wt s),Io p.D,Io (Qq x y)]=.ok (decide (0<x)):=by
   refine Qm (Z2 (aC (Uz rfl rfl) (a1 (d:=nD n d) ?_)) (Sc (k:=k+(k+k+1)+k+1) ⟨by decide,by simp,Nat.pow_pos (by decide)⟩ hnd (by lia)) ?_)
   ·show M.ok (Qq x y)=_
    rw[el]
   ·show M.ok (D.bl (decide (0*d<n*1)))=_
    congr 3
    have:=Tx (a:=0) (b:=1) (c:=x) (d:=y) (p:=0) (q:=1) (p':=n) (q':=d) (by decide) hf.pos (by decide) hnd.pos rfl em
    simp only[Int.zero_mul,Int.mul_one] at this ⊢
    exact propext this
  have b1:∃sx sy,0<sy/\(s=none->sx=wt/\sy=1)/\(∀q x' y',s=some (q,x',y')->sx=x'/\sy=y')/\DL.tB (Zv Ky (Zc (Zd 7) (Zc (Zd 5) Zj))) [some fl,some (.ob ad1 "Track" t.r),some (.ob ad2 "Track" u.r),Jo wt,Io (Ll s),Io (Dj wt s),Io p.D,Io (Qq x y)]=.ok (decide (x*sy<sx*y)):=by
   cases s with
   |none=>
    refine⟨wt,1,by decide,fun _=>⟨rfl,rfl⟩,(fun _ _ _ h=>by cases h),Qm (Z2 (aC (d:=nD n d) ?_ (a1 (d:=nD wt 1) rfl)) (Sc hnd (hw.mono (by lia)) (by lia)) ?_)⟩
    ·show M.ok (Qq x y)=_
     rw[el]
    ·show M.ok (D.bl (decide (n*1<wt*d)))=_
     congr 3
     exact propext (Tx (a:=x) (b:=y) (c:=wt) (d:=1) hf.pos (by decide) hnd.pos (by decide) em rfl)
   |some z=>
    obtain⟨q,x',y'⟩:=z
    have hs:Fr _ x' y':=hs
    obtain⟨n',d',el',hnd',em',_⟩:=Fj hs
    refine⟨x',y',hs.pos,(fun h=>by cases h),(fun _ _ _ h=>by cases h;exact⟨rfl,rfl⟩),Qm (Z2 (aC (d:=nD n d) ?_ (a1 (d:=nD n' d') ?_)) (Sc hnd hnd' (by lia)) ?_)⟩
    ·show M.ok (Qq x y)=_
     rw[el]
    ·show M.ok (Qq x' y')=_
     rw[el']
    ·show M.ok (D.bl (decide (n*d'<n'*d)))=_
     congr 3
     exact propext (Tx hf.pos hs.pos hnd.pos hnd'.pos em em')
  obtain⟨sx,sy,psy,n1,n2,b1⟩:=b1
  have nn:DL.tB (Zn Ks (Zd 7) (eC .non)) [some fl,some (.ob ad1 "Track" t.r),some (.ob ad2 "Track" u.r),Jo wt,Io (Ll s),Io (Dj wt s),Io p.D,Io (Qq x y)]=.ok true:=Zd4 _ x y rfl
  by_cases h0:0<x
  ·by_cases h1:x*sy<sx*y
   ·have acc:0*y<x/\x<wt*y:=by
     refine⟨by lia,?_⟩
     cases hs0:s with
     |none=>obtain⟨rfl,rfl⟩:=n1 hs0;lia
     |some z=>
      obtain⟨q,x',y'⟩:=z
      obtain⟨rfl,rfl⟩:=n2 _ _ _ hs0
      have h2:=hs' _ _ _ hs0
      have h3:=Int.mul_lt_mul_of_pos_right h2 hf.pos
      have h4:x*sy<wt*y*sy:=by
       refine Int.lt_trans h1 ?_
       rw[Int.mul_right_comm]
       exact h3
      exact Int.lt_of_mul_lt_mul_right h4 (Int.le_of_lt psy)
    refine(Qp (Lk nn (Lk (b0.trans (by rw[decide_eq_true h0])) (b1.trans (by rw[decide_eq_true h1])))) (go (Z1 rfl) (Z1 rfl))).trans ?_
    have hw':=Gi ev acc
    cases s with
    |none=>rw[Mv (c:=fun p=>Yg (Ju t u p) 0 wt) hw'];rfl
    |some z=>
     obtain⟨q,x',y'⟩:=z
     obtain⟨rfl,rfl⟩:=n2 _ _ _ rfl
     rw[Dh (c:=fun p=>Yg (Ju t u p) 0 wt) hw' h1]
     rfl
   ·refine(Z0 (Lk nn (Lk (b0.trans (by rw[decide_eq_true h0])) (b1.trans (by rw[decide_eq_false h1]))))).trans ?_
    cases s with
    |none=>
     obtain⟨rfl,rfl⟩:=n1 rfl
     rw[Kc (c:=fun p=>Yg (Ju t u p) 0 sx) (Ur ev (by lia))]
     rfl
    |some z=>
     obtain⟨q,x',y'⟩:=z
     obtain⟨rfl,rfl⟩:=n2 _ _ _ rfl
     by_cases acc:0*y<x/\x<wt*y
     ·rw[Di (c:=fun p=>Yg (Ju t u p) 0 wt) (Gi ev acc) h1];rfl
     ·rw[Kc (c:=fun p=>Yg (Ju t u p) 0 wt) (Ur ev acc)];rfl
  ·refine(Z0 (Lk nn (Zat (b0.trans (by rw[decide_eq_false h0]))))).trans ?_
   rw[Kc (c:=fun p=>Yg (Ju t u p) 0 wt) (Ur ev (by lia))]
   rfl
def Zd5 (ht:TB k t)(hu:TB k u){p:Po4}(hp:PoOk k p){s:Zd3}(hs:Zmy (k+(k+k+1)+k+1) s/\∀q x y,s=some (q,x,y)->x<wt*y):
  Zmy (k+(k+k+1)+k+1) (Je (fun p=>Yg (Ju t u p) 0 wt) s p)/\∀q x y,Je (fun p=>Yg (Ju t u p) 0 wt) s p=some (q,x,y)->x<wt*y:=by
 cases ev:Ju t u p with
 |none=>
  rw[Kc (show Yg (Ju t u p) 0 wt=none by rw[ev];rfl)]
  exact hs
 |some xy=>
  obtain⟨x,y⟩:=xy
  have hf:=Id ht hu hp ev
  by_cases acc:0*y<x/\x<wt*y
  ·have hw':=Gi ev acc
   have new:Zmy (k+(k+k+1)+k+1) (some (p,x,y))/\∀q x' y',some (p,x,y)=some (q,x',y')->x'<wt*y':=⟨hf,fun q x' y' h=>by cases h;exact acc.2⟩
   cases s with
   |none=>rw[Mv (c:=fun p=>Yg (Ju t u p) 0 wt) hw'];exact new
   |some z=>
    obtain⟨q,x',y'⟩:=z
    by_cases hl:x*y'<x'*y
    ·rw[Dh (c:=fun p=>Yg (Ju t u p) 0 wt) hw' hl];exact new
    ·rw[Di (c:=fun p=>Yg (Ju t u p) 0 wt) hw' hl];exact hs
  ·rw[Kc (c:=fun p=>Yg (Ju t u p) 0 wt) (Ur ev acc)]
   exact hs
theorem Ie (fl:S)(ht:TB k t)(hu:TB k u)(hk:k<=60)(hm:t.h≠0\/u.h≠0)(hw:Fr k wt 1):∀(ps:List Po4) (s:Zd3) (v6 v7:Option S),(∀p∈ps,PoOk k p)->(Zmy (k+(k+k+1)+k+1) s/\∀q x y,s=some (q,x,y)->x<wt*y) ->
  ∃w6 w7,Y1 (Yw 6) Zow (ps.map Po4.D) [some fl,some (.ob ad1 "Track" t.r),some (.ob ad2 "Track" u.r),Jo wt,Io (Ll s),Io (Dj wt s),v6,v7] =
   .ok (.nx [some fl,some (.ob ad1 "Track" t.r),some (.ob ad2 "Track" u.r),Jo wt,Io (Ll (ps.foldl (Je (fun p=>Yg (Ju t u p) 0 wt)) s)),Io (Dj wt (ps.foldl (Je (fun p=>Yg (Ju t u p) 0 wt)) s)),w6,w7])
 |[],s,v6,v7,_,_=>⟨v6,v7,rfl⟩
 |p::ps,s,v6,v7,hp,hs=>by
  obtain⟨w7,e⟩:=Zg1 (ad1:=ad1) (ad2:=ad2) fl ht hu hk hm hw (hp p (List.mem_cons_self ..)) hs.1 hs.2 v7
  obtain⟨x6,x7,e2⟩:=Ie fl ht hu hk hm hw ps (Je (fun p=>Yg (Ju t u p) 0 wt) s p) (Io p.D) w7 (fun q hq=>hp q (List.mem_cons_of_mem _ hq)) (Zd5 ht hu (hp p (List.mem_cons_self ..)) hs)
  exact⟨x6,x7,(Q0 rfl e).trans e2⟩
def Zd6 (q:List (List Yo×D))(x y:Int)(ps:List Po4):Prop:=(Y2 q [.inl x,.inl y]=some (.lst (ps.map Po4.D)))\/(Y2 q [.inl x,.inl y]=none/\ps=[])
def Zg2 (a:Addr)(g:D){q:List (List Yo×D)}{ps:List Po4}(hh:Zd6 q t.sq u.sq ps)(ht:TB k t)(hu:TB k u)(hk:k<=60)(hm:t.h≠0\/u.h≠0)(hw:Fr k wt 1)(hp:∀p∈ps,PoOk k p):
  F_person_ahead [.fl a g q,.ob ad1 "Track" t.r,.ob ad2 "Track" u.r,.im (.int wt)]=.ok (.im (Ll (ps.foldl (Je (fun p=>Yg (Ju t u p) 0 wt)) none))):=by
 obtain⟨w6,w7,e⟩:=Ie (ad1:=ad1) (ad2:=ad2) (.fl a g q) ht hu hk hm hw ps none none none hp ⟨trivial,fun _ _ _ h=>by cases h⟩
 have e1:Xi (S9 0 Jc (Zc (Qn (Zc (Q4 1 "Track" "square") (Zc (Q4 2 "Track" "square") Zj))) Zj)) [some (.fl a g q),some (.ob ad1 "Track" t.r),some (.ob ad2 "Track" u.r),Jo wt,Io .non,Io (nD wt 1),none,none]=.ok (ps.map Po4.D):=by
  have e2:S9 0 Jc (Zc (Qn (Zc (Q4 1 "Track" "square") (Zc (Q4 2 "Track" "square") Zj))) Zj) [some (.fl a g q),some (.ob ad1 "Track" t.r),some (.ob ad2 "Track" u.r),Jo wt,Io .non,Io (nD wt 1),none,none]=.ok ((Y2 q [.inl t.sq,.inl u.sq]).getD (.tup [])):=by
   show Nj (Jc [.fl a g q,.im (.tup [.int t.sq,.int u.sq])])=_
   rfl
  rcases hh with h|⟨h,rfl⟩
  ·rw[h] at e2
   exact Uu e2
  ·rw[h] at e2
   exact Ms e2
 exact(Zpe _ _ _ _ _ _).trans (Qb (go (Z1 rfl) (go (Z1 (Uz rfl rfl)) (go ((Q3 e1).trans e) (Z6 rfl)))))
end
structure Sd where
 up:Bool
 x:Int
 y:Int
 f:Bool
 g:Bool
def fc (b:Bool):D:=.str (if b=true then Str.ofString "m" else Str.ofString "p")
def kd (b:Bool):D:=.str (if b=true then Str.ofString "up" else Str.ofString "flat")
def Sd.D (s:Sd):D:=.tup [kd s.up,.int s.x,.int s.y,fc s.f,fc s.g]
def Qi (W H:Int)(ss:List Sd):D:=.tup [.int W,.int H,.tup (ss.map Sd.D)]
def Sd.at (s:Sd)(u:Bool)(x y:Int):Bool:=decide (s.up=u/\s.x=x/\s.y=y)
def Vp (W H:Int)(ss:List Sd)(u:Bool)(x y:Int):Option (Bool×Bool):=match ss.find? (fun s=>s.at u x y) with
 |some s=>some (s.f,s.g)
 |none=>if(if u=true then x else y)=0\/(if u=true then x else y)=(if u=true then W else H) then some (false,false) else none
def Zd7:Option (Bool×Bool)->D
 |some (f,g)=>.tup [fc f,fc g]
 |none=>.non
def Zh2 (a b:Bool):D.eq (kd a) (kd b)=decide (a=b):=by cases a<;>cases b<;>rfl
def Zg3 (s:Sd)(u:Bool)(x y:Int):D.eq (.tup [kd s.up,.int s.x,.int s.y]) (.tup [kd u,.int x,.int y])=s.at u x y:=by
 unfold Sd.at
 simp only[D.eq,D.eqs,Zh2]
 by_cases h1:s.up=u<;>by_cases h2:s.x=x<;>by_cases h3:s.y=y<;>simp[h1,h2,h3]
def Dk (b:Bool)(x y:Int):(D.tup [kd b,.int x,.int y]).dep<=60:=by cases b<;>simp[kd,D.dep,D.deps]
def fB:Zf->M O:=Jf (DL.tB (Zn Jw (L5 (Zd 4) Kp (Xd ↑3)) (Qn (Zc (Zd 1) (Zc (Zd 2) (Zc (Zd 3) Zj)))))) (Qv (L5 (Zd 4) (Xd ↑3) Kp)) Q8
def Ae {fa fb fc:Zf->M D}{sd:Zf}{a b c:D}(h1:fa sd=.ok a)(h2:fb sd=.ok b)(h3:fc sd=.ok c):Qn (Zc fa (Zc fb (Zc fc Zj))) sd=.ok (.tup [a,b,c]):=by
 unfold Qn
 rw[aC h1 (aC h2 (Law.a1 h3))]
 rfl
theorem Zd8 (h0:Option S)(u:Bool)(x y:Int):∀(ss:List Sd) (v:Option S),(∃s,ss.find? (fun s=>s.at u x y)=some s/\Y1 (Yw 4) fB (ss.map Sd.D) [h0,Io (kd u),Jo x,Jo y,v]=.ok (.rt (.im (.tup [fc s.f,fc s.g])))) \/
  (ss.find? (fun s=>s.at u x y)=none/\∃w,Y1 (Yw 4) fB (ss.map Sd.D) [h0,Io (kd u),Jo x,Jo y,v]=.ok (.nx [h0,Io (kd u),Jo x,Jo y,w]))
 |[],v=>.inr ⟨rfl,v,rfl⟩
 |s::ss,v=>by
  have e1:DL.tB (Zn Jw (L5 (Zd 4) Kp (Xd ↑3)) (Qn (Zc (Zd 1) (Zc (Zd 2) (Zc (Zd 3) Zj))))) [h0,Io (kd u),Jo x,Jo y,Io s.D]=.ok (s.at u x y):=by
   refine Qm (Zk (x:=.tup [kd s.up,.int s.x,.int s.y]) rfl (Ae rfl rfl rfl) ?_)
   rw[Jd (Dk _ _ _),Zg3]
  by_cases h:s.at u x y=true
  ·refine .inl ⟨s,by rw[List.find?_cons,h],?_⟩
   rw[h] at e1
   have e2:fB [h0,Io (kd u),Jo x,Jo y,Io s.D]=.ok (.rt (.im (.tup [fc s.f,fc s.g]))):=Qp e1 (Z6 rfl)
   unfold List.map Y1
   show(fB [h0,Io (kd u),Jo x,Jo y,Io s.D]).bind _=_
   rw[e2]
   rfl
  ·have hf:s.at u x y=false:=by cases hh:s.at u x y;rfl;exact absurd hh h
   rw[hf] at e1
   have e2:fB [h0,Io (kd u),Jo x,Jo y,Io s.D]=.ok (.nx [h0,Io (kd u),Jo x,Jo y,Io s.D]):=Z0 e1
   rcases Zd8 h0 u x y ss (Io s.D) with⟨s',g1,g2⟩|⟨g1,w,g2⟩
   ·exact .inl ⟨s',by rw[List.find?_cons,hf];exact g1,(Q0 rfl e2).trans g2⟩
   ·exact .inr ⟨by rw[List.find?_cons,hf];exact g1,w,(Q0 rfl e2).trans g2⟩
def Zki (W H:Int)(u:Bool)(x y:Int):∃d,Xm [.int W,.int H,kd u,.int x,.int y]=.ok (.im d)/\(d=.non↔¬((if u=true then x else y)=0\/(if u=true then x else y)=(if u=true then W else H))):=by
 have e5:Ao (DL.tB (Zn Jw (Zd 2) ↑"up")) (Zd 3) (Zd 4) [Jo W,Jo H,Io (kd u),Jo x,Jo y,none,none]=.ok (.int (if u=true then x else y)):=by
  cases u
  ·exact Tu (Qm (Zk rfl rfl (by rw[Jd (by simp[kd,D.dep])];rfl))) rfl
  ·exact Rl (Qm (Zk rfl rfl (by rw[Jd (by simp[kd,D.dep])];rfl))) rfl
 have e6:∀z,Ao (DL.tB (Zn Jw (Zd 2) ↑"up")) (Zd 0) (Zd 1) [Jo W,Jo H,Io (kd u),Jo x,Jo y,z,none]=.ok (.int (if u=true then W else H)):=fun z=>by
  cases u
  ·exact Tu (Qm (Zk rfl rfl (by rw[Jd (by simp[kd,D.dep])];rfl))) rfl
  ·exact Rl (Qm (Zk rfl rfl (by rw[Jd (by simp[kd,D.dep])];rfl))) rfl
 generalize (if u=true then x else y)=l at *
 generalize (if u=true then W else H)=m at *
 by_cases h0:l=0
 ·exact⟨.int 3,(Zoi _ _ _ _ _ _ _).trans (Qb (go (Z1 e5) (go (Z1 (e6 _)) (Yy (Qp (Qm (Zk rfl rfl (by rw[X9,h0];rfl))) (Z6 rfl)))))),by simp[h0]⟩
 ·by_cases h1:l=m
  ·exact⟨.int 4,(Zoi _ _ _ _ _ _ _).trans (Qb (go (Z1 e5) (go (Z1 (e6 _)) (go (Z0 (Qm (Zk rfl rfl (by rw[X9];simp[h0])))) (Yy (Qp (Qm (Zk rfl rfl (by rw[X9];simp[h1]))) (Z6 rfl))))))),by simp[h1]⟩
  ·exact⟨.non,(Zoi _ _ _ _ _ _ _).trans (Qb (go (Z1 e5) (go (Z1 (e6 _)) (go (Z0 (Qm (Zk rfl rfl (by rw[X9];simp[h0])))) (go (Z0 (Qm (Zk rfl rfl (by rw[X9];simp[h1])))) (Z6 rfl)))))),by simp[h0,h1]⟩
def Ig (W H:Int)(ss:List Sd)(u:Bool)(x y:Int):Qx [Qi W H ss,kd u,.int x,.int y]=.ok (.im (Zd7 (Vp W H ss u x y))):=by
 have e0:Xi 0[2]! [Io (Qi W H ss),Io (kd u),Jo x,Jo y,none]=.ok (ss.map Sd.D):=Ms (Zp rfl rfl (Zmt _ _ _ _))
 unfold Vp
 rcases Zd8 (Io (Qi W H ss)) u x y ss none with⟨s,g1,g2⟩|⟨g1,w,g2⟩
 ·rw[g1]
  exact(Zmp _ _ _ _ _ _).trans (Qb (Yy ((Q3 e0).trans g2)))
 ·rw[g1]
  obtain⟨d,ed,hd⟩:=Zki W H u x y
  have ec:Zv Xm (Zc 0[0]! (Zc 0[1]! (Zc (Zd 1) (Zc (Zd 2) (Zc (Zd 3) Zj))))) [Io (Qi W H ss),Io (kd u),Jo x,Jo y,w]=.ok d:=
   Z2 (aC (Zp rfl rfl (Yx _ _)) (aC (Zp rfl rfl (Yu _ _ _)) (aC rfl (aC rfl (Law.a1 rfl))))) ed rfl
  by_cases hn:d=.non
  ·have hr:=hd.mp hn
   simp only[if_neg hr]
   subst hn
   exact(Zmp _ _ _ _ _ _).trans (Qb (go ((Q3 e0).trans g2) (Yy (Qp (Qm (Zk ec rfl rfl)) (Z6 rfl)))))
  ·have hr:_:=Classical.not_not.mp (fun z=>hn (hd.mpr z))
   simp only[if_pos hr]
   refine(Zmp _ _ _ _ _ _).trans (Qb (go ((Q3 e0).trans g2) (go (Z0 (Qm (Zk ec rfl ?_))) (Z6 (Uz rfl rfl)))))
   cases d<;>first|rfl|exact absurd rfl hn
def Sd.tch (s:Sd)(x y:Int):Bool:=s.at true x (y-1)||(s.at true x y||(s.at false (x-1) y||s.at false x y))
def Wv (W H:Int)(ss:List Sd)(x y:Int):Bool:=(decide (x=0\/x=W)||decide (y=0\/y=H))||ss.any (fun s=>s.tch x y)
theorem Mw {α:Type}(b:α->Bool):∀l:List α,X3 (l.map fun a=>D.bl (b a))=some (l.map b)
 |[]=>rfl
 |a::l=>by
  rw[List.map_cons,List.map_cons]
  simp only[X3,Mw b l]
  rfl
def any_map {α:Type}(b:α->Bool)(l:List α):Zfr [.lst (l.map fun a=>.bl (b a))]=.ok (.bl (l.any b)):=by
 show(match X3 (l.map fun a=>D.bl (b a)) with|some bs=>M.ok (D.bl (bs.any id))|none=>.bad)=_
 rw[Mw]
 simp
def Dl (x a b:Int):Y7 [.int x,.int a,.int b]=.ok (.im (.bl (decide (a<=x)&&decide (x<=b)))):=by
 have e:Um [.int x]=.ok (.im (.bl true)):=rfl
 refine(Zgq _ _ _ _ _).trans (Qb (Z6 (Zdq (Z2 (Law.a1 rfl) e rfl) (B8 rfl rfl))))
def Zpf (x a b:Int):D1 (.int x) [.int a,.int b]=decide (x=a\/x=b):=by
 have e:D1 (.int x) [.int a,.int b]=((a==x)||((b==x)||false)):=by simp only[D1,List.any_cons,List.any_nil,D.eq]
 rw[e,Bool.eq_iff_iff]
 simp only[Bool.or_false,Bool.or_eq_true,beq_iff_eq,decide_eq_true_eq]
 exact⟨fun h=>h.imp Eq.symm Eq.symm,fun h=>h.imp Eq.symm Eq.symm⟩
def Zg4 (l:List Int):D.deps (l.map D.int)<=60:=Uq fun d hd=>by
 obtain⟨i,_,rfl⟩:=List.mem_map.mp hd
 simp[D.dep]
def Zh3 (x a b:Int):Zft (.int x) (.tup [.int a,.int b])=.ok (.bl (decide (x=a\/x=b))):=by
 show(if D.deps [.int a,.int b]<=60 then M.ok (D.bl (D1 (.int x) [.int a,.int b])) else .bad)=_
 rw[if_pos (show D.deps [D.int a,D.int b]<=60 from Zg4 [a,b]),Zpf]
def Xw (u:Bool)(x y:Int):D:=.tup [kd u,.int x,.int y]
def Zpg (s:Sd)(x y:Int):Zft (.tup [kd s.up,.int s.x,.int s.y]) (.lst [Xw true x (y-1),Xw true x y,Xw false (x-1) y,Xw false x y])=.ok (.bl (s.tch x y)):=by
 have hd:D.deps [Xw true x (y-1),Xw true x y,Xw false (x-1) y,Xw false x y]<=60:=Uq fun d hd=>by
  simp only[List.mem_cons,List.not_mem_nil,or_false] at hd
  rcases hd with rfl|rfl|rfl|rfl<;>exact Dk _ _ _
 show(if D.deps [Xw true x (y-1),Xw true x y,Xw false (x-1) y,Xw false x y]<=60 then M.ok (D.bl (D1 (.tup [kd s.up,.int s.x,.int s.y]) [Xw true x (y-1),Xw true x y,Xw false (x-1) y,Xw false x y])) else .bad)=_
 rw[if_pos hd]
 have sy:∀u a b,D.eq (Xw u a b) (.tup [kd s.up,.int s.x,.int s.y])=s.at u a b:=fun u a b=>by
  unfold Xw Sd.at
  simp only[D.eq,D.eqs,Zh2]
  rw[Bool.eq_iff_iff]
  simp only[Bool.and_true,Bool.and_eq_true,beq_iff_eq,decide_eq_true_eq]
  exact⟨fun⟨h1,h2,h3⟩=>⟨h1.symm,h2.symm,h3.symm⟩,fun⟨h1,h2,h3⟩=>⟨h1.symm,h2.symm,h3.symm⟩⟩
 unfold Sd.tch D1
 simp only[List.any_cons,List.any_nil,sy,Bool.or_false]
def Zd9 {W H:Int}{ss:List Sd}(hl:ss.length<=1000){x y:Int}(x0:0<=x)(x1:x<=W)(y0:0<=y)(y1:y<=H):Vn [Qi W H ss,.int x,.int y]=.ok (.im (.bl (Wv W H ss x y))):=by
 have c1:Zv Y7 (Zc (Zd 1) (Zc ↑0 (Zc (Zd 3) Zj))) [Io (Qi W H ss),Jo x,Jo y,Jo W,Jo H,none]=.ok (.bl true):=
  Z2 (aC rfl (aC rfl (Law.a1 rfl))) (Dl x 0 W) (by show M.ok (D.bl _)=_;rw[decide_eq_true x0,decide_eq_true x1];rfl)
 have c2:Zv Y7 (Zc (Zd 2) (Zc ↑0 (Zc (Zd 4) Zj))) [Io (Qi W H ss),Jo x,Jo y,Jo W,Jo H,none]=.ok (.bl true):=
  Z2 (aC rfl (aC rfl (Law.a1 rfl))) (Dl y 0 H) (by show M.ok (D.bl _)=_;rw[decide_eq_true y0,decide_eq_true y1];rfl)
 have c3:DL.tO (DL.tB (Zn Zft (Zd 1) (Qn (Zc ↑0 (Zc (Zd 3) Zj))))) (DL.tB (Zn Zft (Zd 2) (Qn (Zc ↑0 (Zc (Zd 4) Zj))))) [Io (Qi W H ss),Jo x,Jo y,Jo W,Jo H,none]=.ok (decide (x=0\/x=W)||decide (y=0\/y=H)):=
  Zke (Qm (Zk rfl (Uz rfl rfl) (Zh3 x 0 W))) (Qm (Zk rfl (Uz rfl rfl) (Zh3 y 0 H)))
 unfold Wv
 refine(Zgq _ _ _ _ _).trans (Qb (go (Z1 (Zp rfl rfl (Yx _ _))) (go (Z1 (Zp rfl rfl (Yu _ _ _))) (go (Z0 (Rk (Tt (Qm c1)) (Tt (Qm c2)))) ?_))))
 cases hb:(decide (x=0\/x=W)||decide (y=0\/y=H)) with
 |true=>
  rw[hb] at c3
  exact Yy (Qp c3 (Z6 rfl))
 |false=>
  rw[hb] at c3
  refine go (Z0 c3) (go (Z1 (d:=.lst [Xw true x (y-1),Xw true x y,Xw false (x-1) y,Xw false x y]) (B7 (aC (Ae rfl rfl rfl) (aC (Ae rfl rfl rfl) (aC (Ae rfl rfl rfl) (Law.a1 (Ae rfl rfl rfl))))) (Kn (by show(4:Nat)<=1000000;decide)))) (Z6 (Xv (Law.a1 (Tw (Nw (Ms (Zp rfl rfl (Zmt _ _ _ _))) (by rw[List.length_map];exact hl) (Zau Sd.D (fun s=>.bl (s.tch x y)) ss fun s _=>⟨_,rfl,Zk (x:=.tup [kd s.up,.int s.x,.int s.y]) rfl rfl (Zpg s x y)⟩)))) (any_map _ ss))))
inductive Th where
 |no|co|fa (b:Bool)
 deriving DecidableEq
def Th.D:Th->D
 |.no=>.non
 |.co=>.str (Str.ofString "corner")
 |.fa b=>fc b
def Th.mir:Th->Bool
 |.fa true=>true
 |_=>false
def Do (h:Int):Option (Bool×Bool)->Th
 |none=>.no
 |some (f,g)=>.fa (if 0<h then f else g)
def thing (W H:Int)(ss:List Sd)(t u:Tk)(now:Int):Th:=
 if t.due=now/\u.due=now then(if Wv W H ss t.line u.line=true then .co else .no)
 else if t.due=now then Do t.h (Vp W H ss true t.line u.sq)
 else if u.due=now then Do u.h (Vp W H ss false t.sq u.line)
 else .no
def Fm (th:Th):th.D.dep<=60:=by cases th<;>simp[Th.D,fc,D.dep]
def Zkj (th:Th):D.eq th.D (.str (Str.ofString "m"))=th.mir:=by
 cases th with
 |no=>rfl
 |co=>rfl
 |fa b=>cases b<;>rfl
def Zoo (th:Th):D.eq th.D (.str (Str.ofString "p"))=decide (th=.fa false):=by
 cases th with
 |no=>rfl
 |co=>rfl
 |fa b=>cases b<;>rfl
def Zop (th:Th):D.eq th.D (.str (Str.ofString "corner"))=decide (th=.co):=by
 cases th with
 |no=>rfl
 |co=>rfl
 |fa b=>cases b<;>rfl
def Zea {x y:Int}(h:y<x):Rp (.int x) (.int y)=.ok (.bl true):=by
 show M.ok (D.bl (decide (y<x)))=_
 rw[decide_eq_true h]
def Zh4 {x y:Int}(h:¬y<x):Rp (.int x) (.int y)=.ok (.bl false):=by
 show M.ok (D.bl (decide (y<x)))=_
 rw[decide_eq_false h]
def Zkk (a:Addr)(t:Tk)(o:Option (Bool×Bool)):F_face_ahead [.ob a "Track" t.r,.im (Zd7 o)]=.ok (.im (Do t.h o).D):=by
 refine(Znh _ _ _ _).trans (Qb ?_)
 cases o with
 |none=>exact Yy (Qp (Qm (Zk rfl rfl rfl)) (Z6 rfl))
 |some fg=>
  obtain⟨f,g⟩:=fg
  refine go (Z0 (Qm (Zk rfl rfl rfl))) (Z6 ?_)
  show _=M.ok (fc (if 0<t.h then f else g))
  by_cases h:0<t.h
  ·rw[if_pos h]
   exact Rl (Qm (Zk rfl rfl (Zea h))) (Zp rfl rfl (Yx _ _))
  ·rw[if_neg h]
   exact Tu (Qm (Zk rfl rfl (Zh4 h))) (Zp rfl rfl (Yu _ _ _))
def Zph (f:Zf->M D)(a0 a1 a2 a3:S):Zmg 4 f [a0,a1,a2,a3]=f [some a0,some a1,some a2,some a3]:=rfl
def Zeb {c:Zf->M Bool}{f g:Zf->M D}{sd:Zf}{r:M D}(h:c sd=.ok true)(k:f sd=r):Zhv c f g sd=r:=by unfold Zhv;rw[h];exact k
def Mx {c:Zf->M Bool}{f g:Zf->M D}{sd:Zf}{r:M D}(h:c sd=.ok false)(k:g sd=r):Zhv c f g sd=r:=by unfold Zhv;rw[h];exact k
def Ih (i:Nat){sd:Zf}{a b:Addr}{g:D}{q:List (List Yo×D)}{t:Tk}{W H:Int}{ss:List Sd}{up:Bool}{x y:Int}(e0:sd[0]?=some (some (.fl a (Qi W H ss) q))) (ei:sd[i]?=some (some (.ob b "Track" t.r))) {fk:Zf->M D} (hk:fk sd=.ok (.tup [kd up,.int x,.int y])):
  Wu Qx F_face_ahead i fk sd=.ok (Do t.h (Vp W H ss up x y)).D:=by
 unfold Wu
 rw[e0,ei]
 show(if W7 (S.ob b "Track" t.r)=true then _ else _)=_
 rw[if_pos (show W7 (S.ob b "Track" t.r)=true from rfl),hk]
 have hs:(K9 [kd up,D.int x,D.int y]).isSome=true:=by cases up<;>rfl
 rw[M.bind_ok]
 dsimp only
 rw[if_pos ⟨rfl,hs⟩]
 have e1:Ug Qx (Qi W H ss) [kd up,.int x,.int y]=.ok (Zd7 (Vp W H ss up x y)):=by
  unfold Ug
  rw[Ig]
  rfl
 rw[e1,M.bind_ok,Zkk]
 rfl
def Zec (i:Nat){sd:Zf}{b:Addr}{t:Tk}{now:Int} (ei:sd[i]?=some (some (.ob b "Track" t.r))) (e3:sd[3]?=some (Jo now)):DL.tB (Zn Jw (Q4 i "Track" "due") (Zd 3)) sd=.ok (decide (t.due=now)):=by
 refine Qm (Zk (x:=.int t.due) (y:=.int now) ?_ ?_ (by rw[X9];rfl))
 ·unfold Q4;rw[ei];rfl
 ·unfold Zd;rw[e3]
def Zg5 (a a1 a2:Addr)(q:List (List Yo×D)){W H:Int}{ss:List Sd}{t u:Tk}{now:Int}(hl:ss.length<=1000)(hc:t.due=now->u.due=now->0<=t.line/\t.line<=W/\0<=u.line/\u.line<=H):
  F_thing_at [.fl a (Qi W H ss) q,.ob a1 "Track" t.r,.ob a2 "Track" u.r,.im (.int now)]=.ok (thing W H ss t u now).D:=by
 refine(Zph _ _ _ _ _).trans ?_
 have d1:=Zec 1 (sd:=[some (.fl a (Qi W H ss) q),some (.ob a1 "Track" t.r),some (.ob a2 "Track" u.r),Jo now]) rfl rfl
 have d2:=Zec 2 (sd:=[some (.fl a (Qi W H ss) q),some (.ob a1 "Track" t.r),some (.ob a2 "Track" u.r),Jo now]) rfl rfl
 unfold thing
 by_cases h1:t.due=now
 ·rw[decide_eq_true h1] at d1
  by_cases h2:u.due=now
  ·rw[decide_eq_true h2] at d2
   rw[if_pos ⟨h1,h2⟩]
   obtain⟨x0,x1,y0,y1⟩:=hc h1 h2
   refine Zeb (Lk d1 d2) ?_
   have ec:=Zd9 (W:=W) (H:=H) (ss:=ss) hl x0 x1 y0 y1
   cases hb:Wv W H ss t.line u.line with
   |true=>
    rw[hb] at ec
    exact Rl (Qm (Z2 (aC rfl (aC (Wn 1 rfl) (Law.a1 (Wn 2 rfl)))) ec rfl)) rfl
   |false=>
    rw[hb] at ec
    exact Tu (Qm (Z2 (aC rfl (aC (Wn 1 rfl) (Law.a1 (Wn 2 rfl)))) ec rfl)) rfl
  ·rw[decide_eq_false h2] at d2
   rw[if_neg (fun z=>h2 z.2),if_pos h1]
   refine Mx (Lk d1 d2) (Zeb d1 (Ih 1 (g:=.non) (up:=true) rfl rfl (Ae rfl (Wn 1 rfl) rfl)))
 ·rw[decide_eq_false h1] at d1
  rw[if_neg (fun z=>h1 z.1),if_neg h1]
  by_cases h2:u.due=now
  ·rw[decide_eq_true h2] at d2
   rw[if_pos h2]
   exact Mx (Zat d1) (Mx d1 (Zeb d2 (Ih 2 (g:=.non) (up:=false) rfl rfl (Ae rfl rfl (Wn 2 rfl)))))
  ·rw[decide_eq_false h2] at d2
   rw[if_neg h2]
   exact Mx (Zat d1) (Mx d1 (Mx d2 rfl))
def Ko (th:Th)(over may:Bool):Option Str:=match th with
 |.co=>some (Str.ofString "corner")
 |.no=>if over=true then some (Str.ofString "end") else none
 |.fa false=>if over=true then some (Str.ofString "end") else some (Str.ofString "plain")
 |.fa true=>if over=true then some (Str.ofString "end") else if may=true then none else some (Str.ofString "many")
def Ii:Option Str->D
 |some s=>.str s
 |none=>.non
def Zkl (th:Th)(over may:Bool):X0 [th.D,.bl over,.bl may]=.ok (.im (Ii (Ko th over may))):=by
 refine(Zgq _ _ _ _ _).trans (Qb ?_)
 have c1:∀s:String,DL.tB (Zn Jw (Zd 0) (eC (.str (Str.ofString s)))) [Io th.D,Io (.bl over),Io (.bl may)]=.ok (D.eq th.D (.str (Str.ofString s))):=fun s=>Qm (Zk (x:=th.D) rfl rfl (Jd (Fm th)))
 have cc:=c1 "corner"
 have cp:=c1 "p"
 have cm:=c1 "m"
 rw[Zop] at cc
 rw[Zoo] at cp
 rw[Zkj] at cm
 cases th with
 |co=>exact Yy (Qp cc (Z6 rfl))
 |no=>
  cases over with
  |true=>exact go (Z0 cc) (Yy (Qp rfl (Z6 rfl)))
  |false=>exact go (Z0 cc) (go (Z0 rfl) (go (Z0 cp) (go (Z0 (Zat cm)) (Z6 rfl))))
 |fa b=>
  cases over with
  |true=>cases b<;>exact go (Z0 cc) (Yy (Qp rfl (Z6 rfl)))
  |false=>
   cases b with
   |false=>exact go (Z0 cc) (go (Z0 rfl) (Yy (Qp cp (Z6 rfl))))
   |true=>
    cases may with
    |true=>exact go (Z0 cc) (go (Z0 rfl) (go (Z0 cp) (go (Z0 (Lk cm (Tt rfl))) (Z6 rfl))))
    |false=>exact go (Z0 cc) (go (Z0 rfl) (go (Z0 cp) (Yy (Qp (Lk cm (Zmr (b:=false) rfl)) (Z6 rfl)))))
def place (t:Tk)(now:Int):D:=if t.h=0 then nD t.n t.m else Qq (t.line*t.lap-t.h*(t.due-now)) t.lap
def Af (t u:Tk)(now:Int):D:=.tup [place t now,place u now]
def Xo (t:Tk)(now:Int)(th:Th):Tk:=if t.due=now then(if th.mir=true then {t with h:=-t.h,due:=t.due+t.lap} else {t with sq:=t.sq+t.h,due:=t.due+t.lap}) else t
def Ij (t:Tk)(now:Int)(th:Th):F_pass_line t.r [.int now,th.D]=some (Xo t now th).r:=by
 unfold Tk.r
 rw[Zkg _ _ _ _ _ _ _ (Fm th),Zkj]
 unfold Xo
 by_cases h:t.due=now
 ·rw[if_pos h,if_pos h]
  cases th.mir<;>rfl
 ·rw[if_neg h,if_neg h]
def Ja:Nat:=10 ^ 54
def Ty:(10:Nat) ^ 56=100*Ja:=rfl
def Ag:10 ^ 10<=Ja:=by decide
structure PB (z:Nat) (p q:Int):Prop where
 fr:Fr 15 p q
 p0:0<p
 p1:p<(z:Int)*q
 g:Int.gcd p q=1
 nw:∀k:Int,k*q≠p
def PIn.pb {z:Nat}{p q:Int}(h:PIn z p q):PB z p q:=⟨h.fr.mono (by decide),h.p0,h.p1,h.g,h.nw⟩
structure TI (z:Nat) (T now:Int) (t:Tk):Prop where
 pn:PB z t.n t.m
 z8:z<=8
 s0:0<=t.sq
 s1:t.sq<z
 l0:0<=t.lap
 mv:(t.h=0/\t.due=T+1/\t.sq=t.n/t.m)\/((t.h=1\/t.h = -1)/\0<t.lap/\now<t.due/\t.due<=now+t.lap)
structure WS (W H:Nat) (T now:Int) (t u:Tk):Prop where
 x:TI W T now t
 y:TI H T now u
 mv:t.h≠0\/u.h≠0
 n0:0<=now
 n1:now<T
 at0:now=0\/(t.h≠0/\t.due=now+t.lap)\/(u.h≠0/\u.due=now+u.lap)
section
variable {z W H:Nat}{T now:Int}{t u:Tk}
theorem TI.line (h:TI z T now t):0<=t.line/\t.line<=z:=by
 have:=h.s0
 have:=h.s1
 unfold Tk.line Jy
 split<;>lia
def TI.tb (h:TI z T now t)(l1:t.lap<=Ja)(n0:0<=now)(n1:now<T)(t1:T<=Ja):TB 56 t:=by
 have hl:=h.line
 have:=h.z8
 have:=h.l0
 have bg:=Ag
 refine⟨h.pn.fr.mono (by decide),?_,?_,?_,?_⟩<;>rw[Ty]
 ·lia
 ·rcases h.mv with⟨a,_⟩|⟨a,_⟩<;>lia
 ·rcases h.mv with⟨_,a,_⟩|⟨_,_,_,a⟩<;>lia
 ·lia
def Z7 (t u:Tk)(T:Int):Int:=min (min t.due u.due) T
def WS.nxt (h:WS W H T now t u):now<Z7 t u T/\Z7 t u T<=T/\Z7 t u T<=t.due/\Z7 t u T<=u.due:=by
 have:=h.n1
 have a:now<t.due:=by rcases h.x.mv with⟨_,a,_⟩|⟨_,_,a,_⟩<;>lia
 have b:now<u.due:=by rcases h.y.mv with⟨_,a,_⟩|⟨_,_,a,_⟩<;>lia
 unfold Z7
 lia
def Dp (a:Addr)(h:TI z T now t)(l1:t.lap<=Ja){w:Int}(n0:0<=now)(n1:now<T)(t1:T<=Ja)(w0:0<=w)(w1:w<=T):Yf [.ob a "Track" t.r,.im (.int w)]=.ok (.im (place t w)):=by
 unfold place
 have tb:=h.tb l1 n0 n1 t1
 have bg:=Ag
 by_cases hh:t.h=0
 ·rw[if_pos hh]
  have:=Zdw a (nD t.n t.m) t.sq t.due t.lap w
  unfold Tk.r
  rw[hh]
  exact this
 ·rw[if_neg hh]
  have hl:0<t.lap:=by rcases h.mv with⟨z,_⟩|⟨_,z,_⟩;exact absurd z hh;exact z
  refine Zgv (k:=56) a (nD t.n t.m) hh hl tb.lap tb.li tb.h ?_ (by decide)
  rw[Ty]
  rcases h.mv with⟨z,_⟩|⟨_,_,z1,z2⟩
  ·exact absurd z hh
  ·lia
def Ah (x y:Int)(p:Po4):Bool:=decide (p.a/p.b=x/\p.c/p.d=y)
def Tz (ps:List Po4)(T:Int)(t u:Tk):Zd3:=(ps.filter (Ah t.sq u.sq)).foldl (Je (fun p=>Yg (Ju t u p) 0 T)) none
def wk (W H:Int)(ss:List Sd)(ps:List Po4)(T:Int)(most:Nat):Nat->Tk->Tk->List D->Option D
 |0,_,_,_=>none
 |n+1,t,u,tn=>match Tz ps T t u with
  |some (p,_)=>some (.tup [.str (Str.ofString "person"),p.D,.lst tn])
  |none=>match Ko (thing W H ss t u (Z7 t u T)) (decide (Z7 t u T=T)) (decide (tn.length<most)) with
   |some w=>some (.tup [.str w,Af t u (Z7 t u T),.lst tn])
   |none=>wk W H ss ps T most n (Xo t (Z7 t u T) (thing W H ss t u (Z7 t u T))) (Xo u (Z7 t u T) (thing W H ss t u (Z7 t u T))) (if(thing W H ss t u (Z7 t u T)).mir=true then tn++[Af t u (Z7 t u T)] else tn)
def Ik {th:Th}{n':Int}(h:TI z T now t)(a:now<n')(b:n'<=t.due)(c:n'<T)(hm:t.due=n'->th.mir=false->t.line≠0/\t.line≠z):TI z T n' (Xo t n' th):=by
 have h0:=h.s0
 have h1:=h.s1
 unfold Xo
 by_cases hd:t.due=n'
 ·rw[if_pos hd]
  rcases h.mv with⟨_,z1,_⟩|⟨z1,z2,z3,z4⟩
  ·lia
  ·cases hq:th.mir with
   |true=>exact⟨h.pn,h.z8,h.s0,h.s1,h.l0,.inr ⟨by show -t.h=1 \/ -t.h = -1;lia,z2,by show n'<t.due+t.lap;lia,by show t.due+t.lap<=n'+t.lap;lia⟩⟩
   |false=>
    have hl:=hm hd hq
    unfold Tk.line Jy at hl
    refine⟨h.pn,h.z8,?_,?_,h.l0,.inr ⟨z1,z2,by show n'<t.due+t.lap;lia,by show t.due+t.lap<=n'+t.lap;lia⟩⟩
    ·show 0<=t.sq+t.h
     rcases z1 with z1|z1<;>rw[z1] at hl ⊢<;>simp at hl<;>lia
    ·show t.sq+t.h<z
     rcases z1 with z1|z1<;>rw[z1] at hl ⊢<;>simp at hl<;>lia
 ·rw[if_neg hd]
  refine⟨h.pn,h.z8,h.s0,h.s1,h.l0,?_⟩
  rcases h.mv with z1|⟨z1,z2,z3,z4⟩
  ·exact .inl z1
  ·exact .inr ⟨z1,z2,by lia,by lia⟩
def Ai {th:Th}{n':Int}:(Xo t n' th).h≠0↔t.h≠0:=by
 unfold Xo
 split
 ·split
  ·show -t.h≠0↔_
   lia
  ·exact Iff.rfl
 ·exact Iff.rfl
def T1 {th:Th}{n':Int}(h:t.due=n'):(Xo t n' th).due=n'+(Xo t n' th).lap:=by
 unfold Xo
 rw[if_pos h]
 split
 ·show t.due+t.lap=n'+t.lap
  rw[h]
 ·show t.due+t.lap=n'+t.lap
  rw[h]
def Dq {ss:List Sd}{up:Bool}{x y:Int}{W H:Int}(h:Vp W H ss up x y=none):(if up=true then x else y)≠0/\(if up=true then x else y)≠(if up=true then W else H):=by
 unfold Vp at h
 cases hf:ss.find? (fun s=>s.at up x y) with
 |some s=>rw[hf] at h;cases h
 |none=>
  rw[hf] at h
  dsimp only at h
  by_cases q:(if up=true then x else y)=0\/(if up=true then x else y)=(if up=true then W else H)
  ·rw[if_pos q] at h;cases h
  ·exact⟨fun z=>q (.inl z),fun z=>q (.inr z)⟩
def Zay {ss:List Sd}{x y:Int}{W H:Int}(h:Wv W H ss x y=false):x≠0/\x≠W/\y≠0/\y≠H:=by
 unfold Wv at h
 simp only[Bool.or_eq_false_iff,decide_eq_false_iff_not] at h
 lia
def Dr {h:Int}{o:Option (Bool×Bool)}(e:Do h o=.no):o=none:=by
 cases o with
 |none=>rfl
 |some p=>cases e
def Zaz {ss:List Sd}{n':Int}{th:Th}(e:thing W H ss t u n'=th)(hno:th=.no):(t.due=n'->t.line≠0/\t.line≠W)/\(u.due=n'->u.line≠0/\u.line≠H):=by
 subst e
 unfold thing at hno
 split at hno
 ·rename_i hd
  split at hno
  ·cases hno
  ·rename_i hc
   have:=Zay (Bool.eq_false_iff.mpr hc)
   exact⟨fun _=>⟨this.1,this.2.1⟩,fun _=>this.2.2⟩
 ·rename_i hd
  split at hno
  ·rename_i h1
   have:=Dq (Dr hno)
   exact⟨fun _=>this,fun z=>absurd ⟨h1,z⟩ hd⟩
  ·rename_i h1
   split at hno
   ·have:=Dq (Dr hno)
    exact⟨fun z=>absurd z h1,fun _=>this⟩
   ·rename_i h2
    exact⟨fun z=>absurd z h1,fun z=>absurd z h2⟩
def P3 {th:Th}{over may:Bool}(h:Ko th over may=none):over=false/\(th=.no\/(th=.fa true/\may=true)):=by
 cases th with
 |co=>cases h
 |no=>cases over;exact⟨rfl,.inl rfl⟩;cases h
 |fa b=>
  cases over
  ·cases b
   ·cases h
   ·cases may
    ·cases h
    ·exact⟨rfl,.inr ⟨rfl,rfl⟩⟩
  ·cases b<;>cases h
def WS.step {ss:List Sd}{may:Bool}(h:WS W H T now t u)(hw:Ko (thing W H ss t u (Z7 t u T)) (decide (Z7 t u T=T)) may=none):
  WS W H T (Z7 t u T) (Xo t (Z7 t u T) (thing W H ss t u (Z7 t u T))) (Xo u (Z7 t u T) (thing W H ss t u (Z7 t u T))):=by
 obtain⟨a1,a2,a3,a4⟩:=h.nxt
 obtain⟨w1,w2⟩:=P3 hw
 have w1:=of_decide_eq_false w1
 have lt:Z7 t u T<T:=by lia
 have hrim:(thing W H ss t u (Z7 t u T)).mir=false->(t.due=Z7 t u T->t.line≠0/\t.line≠W)/\(u.due=Z7 t u T->u.line≠0/\u.line≠H):=fun hm=>by
  rcases w2 with w2|⟨w2,_⟩
  ·exact Zaz rfl w2
  ·rw[w2] at hm;cases hm
 have du:t.due=Z7 t u T\/u.due=Z7 t u T:=by unfold Z7 at lt ⊢;lia
 refine⟨Ik h.x a1 a3 lt fun z1 z2=>(hrim z2).1 z1,Ik h.y a1 a4 lt fun z1 z2=>(hrim z2).2 z1,?_,by have:=h.n0;lia,lt,.inr ?_⟩
 ·rw[Ai,Ai];exact h.mv
 ·rcases du with d|d
  ·refine .inl ⟨?_,T1 d⟩
   rw[Ai]
   rcases h.x.mv with⟨_,z,_⟩|⟨z,_⟩<;>lia
  ·refine .inr ⟨?_,T1 d⟩
   rw[Ai]
   rcases h.y.mv with⟨_,z,_⟩|⟨z,_⟩<;>lia
end
def V3 {t:Tk}(w:Int)(th:Th):(Xo t w th).lap=t.lap:=by
 unfold Xo
 split
 ·split<;>rfl
 ·rfl
theorem PoOk.mono {j k:Nat}{p:Po4}(h:PoOk j p)(hk:j<=k):PoOk k p:=⟨h.x.mono hk,h.y.mono hk⟩
section
variable {W H:Nat}{T:Int}{ss:List Sd}{ps:List Po4}{most:Nat} (a a1 a2:Addr) (q:Nn) (g pt st:D)
def Zg6 (mo:Nat)(r1 r2:Qw)(tn:List D)(now:Int)(th:Th):
  Ht (Pw a a1 a2 g (qD q) pt st (.int mo) (.int T) r1 r2 tn none (Jo now) (Io th.D) none)=.ok (Ii (Ko th (decide (now=T)) (decide (tn.length<mo)))):=by
 unfold Ht Sx
 have e:Zv X0 (Zc (Zd 10) (Zc (Zn Jw (Zd 9) (Zd 4)) (Zc (Zn T7 (Jx Vz (Zc (Zd 7) Zj)) (Zd 3)) Zj))) (frz 7 (Pw a a1 a2 g (qD q) pt st (.int mo) (.int T) r1 r2 tn none (Jo now) (Io th.D) none))=.ok (Ii (Ko th (decide (now=T)) (decide (tn.length<mo)))):=by
  refine Z2 (aC rfl (aC (Zk (x:=.int now) (y:=.int T) rfl rfl (by rw[X9])) (Law.a1 (d:=.bl (decide (tn.length<mo))) (Zk (x:=.int tn.length) (y:=.int mo) (Xv (Law.a1 rfl) Ab) rfl ?_)))) (s:=.im (Ii (Ko th (decide (now=T)) (decide (tn.length<mo))))) ?_ rfl
  ·show M.ok (D.bl (decide ((tn.length:Int)<(mo:Int))))=_
   congr 2
   rw[Bool.eq_iff_iff]
   simp
  ·have:=Zkl th (now==T) (decide (tn.length<mo))
   exact this
 rw[e]
 cases Ko th (decide (now=T)) (decide (tn.length<mo))<;>rfl
def Zkm (mo wt:D)(r1 r2:Qw)(tn:List D)(th:Th):Zgm (Pw a a1 a2 g (qD q) pt st mo wt r1 r2 tn none none (Io th.D) none)=.ok th.mir:=
 Qm (Zk (x:=th.D) rfl rfl ((Jd (Fm th)).trans (by rw[Zkj])))
def Za0 (mo wt:D){t u:Tk}(tn:List D){w:Int}{p1 p2:D} (h1:Yf [.ob a1 "Track" t.r,.im (.int w)]=.ok (.im p1)) (h2:Yf [.ob a2 "Track" u.r,.im (.int w)]=.ok (.im p2)):
  Vo (Pw a a1 a2 g (qD q) pt st mo wt t.r u.r tn none (Jo w) none none)=.ok (.tup [p1,p2]):=by
 refine Uz ?_ ?_
 ·show Nj (Yf [.ob a1 "Track" t.r,.im (.int w)])=_
  rw[h1];rfl
 ·show Nj (Yf [.ob a2 "Track" u.r,.im (.int w)])=_
  rw[h2];rfl
theorem lw (hl:ss.length<=1000)(hp:∀p∈ps,PtOk W H p)(hq:∀x y,Zd6 (qD q) x y (ps.filter (Ah x y)))(hm:most<=1000)(hT:T<=Ja):∀(n:Nat) (t u:Tk) (tn:List D) (now:Int) (d:D),WS W H T now t u->t.lap<=Ja->u.lap<=Ja->tn.length<=most->wk W H ss ps T most n t u tn=some d ->
  Tq a a1 a2 (Qi W H ss) (qD q) pt st (.int most) (.int T) n t.r u.r tn=.ok d
 |0,_,_,_,_,_,_,_,_,_,h=>by cases h
 |n+1,t,u,tn,now,d,wi,lx,ly,htn,h=>by
  have tx:=wi.x.tb lx wi.n0 wi.n1 hT
  have ty:=wi.y.tb ly wi.n0 wi.n1 hT
  have hw:Fr 56 T 1:=by
   have:=wi.n0
   have:=wi.n1
   have:=Ag
   refine⟨by decide,?_,?_⟩<;>rw[Ty]<;>lia
  have ea:Fd (Pw a a1 a2 (Qi W H ss) (qD q) pt st (.int most) (.int T) t.r u.r tn none none none none)=.ok (Ll (Tz ps T t u)):=by
   show Nj (F_person_ahead [.fl a (Qi W H ss) (qD q),.ob a1 "Track" t.r,.ob a2 "Track" u.r,.im (.int T)])=_
   rw[Zg2 a (Qi W H ss) (hq t.sq u.sq) tx ty (by decide) wi.mv hw (fun p hp'=>(hp p (List.mem_filter.mp hp').1).ok.mono (by decide))]
   rfl
  unfold Tq
  rw[ea,M.bind_ok]
  unfold wk at h
  cases ha:Tz ps T t u with
  |some x=>
   rw[ha] at h
   obtain⟨p,xy⟩:=x
   cases h
   rfl
  |none=>
   rw[ha] at h
   dsimp only at h
   have en:Zkb (Pw a a1 a2 (Qi W H ss) (qD q) pt st (.int most) (.int T) t.r u.r tn none none none none)=.ok (.int (Z7 t u T)):=rfl
   obtain⟨n1,n2,n3,n4⟩:=wi.nxt
   have n0:=wi.n0
   have et:=Zg5 a a1 a2 (qD q) (t:=t) (u:=u) (now:=Z7 t u T) (W:=W) (H:=H) hl fun _ _=>⟨wi.x.line.1,wi.x.line.2,wi.y.line.1,wi.y.line.2⟩
   have ep:=Za0 a a1 a2 q (Qi W H ss) pt st (.int most) (.int T) tn (Dp a1 wi.x lx n0 wi.n1 hT (show 0<=Z7 t u T by lia) n2) (Dp a2 wi.y ly n0 wi.n1 hT (show 0<=Z7 t u T by lia) n2)
   have st':=fun may h=>WS.step (ss:=ss) (may:=may) wi h
   have ew:=Zg6 (T:=T) a a1 a2 q (Qi W H ss) pt st most t.r u.r tn (Z7 t u T) (thing W H ss t u (Z7 t u T))
   have em:=Zkm a a1 a2 q (Qi W H ss) pt st (.int most) (.int T) t.r u.r tn (thing W H ss t u (Z7 t u T))
   have e1:=Ij t (Z7 t u T) (thing W H ss t u (Z7 t u T))
   have e2:=Ij u (Z7 t u T) (thing W H ss t u (Z7 t u T))
   show(if D.isN .non=true then _ else _)=_
   rw[if_pos (show D.isN .non=true from rfl),en,M.bind_ok,et,M.bind_ok,ew,M.bind_ok]
   generalize hth:thing W H ss t u (Z7 t u T)=th at *
   cases hw:Ko th (decide (Z7 t u T=T)) (decide (tn.length<most)) with
   |some w=>
    rw[hw] at h
    cases h
    show(if D.isN (.str w)=true then _ else _)=_
    rw[if_neg (by intro z;cases z),ep,M.bind_ok]
    rfl
   |none=>
    rw[hw] at h
    dsimp only at h
    show(if D.isN .non=true then _ else _)=_
    rw[if_pos (show D.isN .non=true from rfl),em,M.bind_ok,ep,e1,e2]
    have wi':=st' _ hw
    obtain⟨_,w2⟩:=P3 hw
    cases hb:th.mir with
    |true=>
     rw[hb] at h
     have hlt:tn.length<most:=by
      rcases w2 with rfl|⟨_,w2⟩
      ·cases hb
      ·exact of_decide_eq_true w2
     show(M.bind (if few tn=true then M.ok (tn++[D.tup [place t (Z7 t u T),place u (Z7 t u T)]]) else M.bad) _)=_
     rw[if_pos (Kn (by lia)),M.bind_ok]
     exact lw hl hp hq hm hT n _ _ _ _ d wi' (by rw[V3];exact lx) (by rw[V3];exact ly) (by rw[List.length_append,List.length_singleton];lia) h
    |false=>
     rw[hb] at h
     exact lw hl hp hq hm hT n _ _ _ _ d wi' (by rw[V3];exact lx) (by rw[V3];exact ly) htn h
end
theorem Aj {W H:Int}{ss:List Sd}{ps:List Po4}{T:Int}{most:Nat}:∀(n m:Nat) (t u:Tk) (tn:List D) (d:D),n<=m->wk W H ss ps T most n t u tn=some d->wk W H ss ps T most m t u tn=some d
 |0,_,_,_,_,_,_,h=>by cases h
 |n+1,0,_,_,_,_,hm,_=>by lia
 |n+1,m+1,t,u,tn,d,hm,h=>by
  unfold wk at h ⊢
  cases ha:Tz ps T t u with
  |some x=>rw[ha] at h;exact h
  |none=>
   rw[ha] at h
   dsimp only at h ⊢
   cases hw:Ko (thing W H ss t u (Z7 t u T)) (decide (Z7 t u T=T)) (decide (tn.length<most)) with
   |some w=>rw[hw] at h;exact h
   |none=>
    rw[hw] at h
    exact Aj n m _ _ _ d (by lia) h
theorem Ak {W H:Nat}{ss:List Sd}{ps:List Po4}{T:Int}{most:Nat}:∀(n kx ky:Nat) (t u:Tk) (tn:List D) (now:Int),WS W H T now t u->T<t.due+kx*t.lap->T<u.due+ky*u.lap->kx+ky<n->∃d,wk W H ss ps T most n t u tn=some d
 |0,_,_,_,_,_,_,_,_,_,h=>by lia
 |n+1,kx,ky,t,u,tn,now,wi,hx,hy,hn=>by
  unfold wk
  cases ha:Tz ps T t u with
  |some x=>exact⟨_,rfl⟩
  |none=>
   dsimp only
   cases hw:Ko (thing W H ss t u (Z7 t u T)) (decide (Z7 t u T=T)) (decide (tn.length<most)) with
   |some w=>exact⟨_,rfl⟩
   |none=>
    have wi':=wi.step hw
    have lt:=wi'.n1
    obtain⟨n1,n2,n3,n4⟩:=wi.nxt
    have hlap:∀(v:Tk) (th:Th),(Xo v (Z7 t u T) th).lap=v.lap:=fun v th=>by
     unfold Xo;split
     ·split<;>rfl
     ·rfl
    have same:∀(v:Tk) (th:Th),v.due≠Z7 t u T->(Xo v (Z7 t u T) th).due=v.due:=fun v th h=>by unfold Xo;rw[if_neg h]
    have one:∀(v:Tk) (th:Th) (k:Nat),v.due=Z7 t u T->T<v.due+k*v.lap->0<=v.lap->∃j,k=j+1/\T<(Xo v (Z7 t u T) th).due+j*(Xo v (Z7 t u T) th).lap:=fun v th k h hk h0=>by
     cases k with
     |zero=>simp at hk;lia
     |succ j=>
      refine⟨j,rfl,?_⟩
      have e:=T1 (th:=th) h
      rw[hlap] at e
      rw[hlap,e]
      have:((j+1:Nat):Int)*v.lap=j*v.lap+v.lap:=by rw[Int.natCast_add,Int.add_mul];simp
      lia
    have cases2:∀(v:Tk) (th:Th) (k:Nat),T<v.due+k*v.lap->0<=v.lap->∃j,j<=k/\(v.due=Z7 t u T->j<k)/\T<(Xo v (Z7 t u T) th).due+j*(Xo v (Z7 t u T) th).lap:=fun v th k hk h0=>by
     by_cases h:v.due=Z7 t u T
     ·obtain⟨j,e1,e2⟩:=one v th k h hk h0
      exact⟨j,by lia,fun _=>by lia,e2⟩
     ·refine⟨k,Nat.le_refl _,fun z=>absurd z h,?_⟩
      rw[same v th h,hlap];exact hk
    obtain⟨jx,x1,x2,x3⟩:=cases2 t (thing W H ss t u (Z7 t u T)) kx hx wi.x.l0
    obtain⟨jy,y1,y2,y3⟩:=cases2 u (thing W H ss t u (Z7 t u T)) ky hy wi.y.l0
    have du:t.due=Z7 t u T\/u.due=Z7 t u T:=by unfold Z7 at lt ⊢;lia
    exact Ak n jx jy _ _ _ _ wi' x3 y3 (by rcases du with z|z;have:=x2 z;lia;have:=y2 z;lia)
def m1 (a:Int):Int:=if(a.natAbs:Int) > 1 then a.natAbs else 1
def Il (a:Int):0<m1 a/\(a≠0->m1 a=a.natAbs):=by
 unfold m1
 split
 ·exact⟨by lia,fun _=>rfl⟩
 ·exact⟨by lia,fun _=>by lia⟩
def W2 {a:Int}{k:Nat}(h:a.natAbs<=10 ^ k):(m1 a).natAbs<=10 ^ k:=by
 have:=Nat.pow_pos (n:=k) (show 0<10 by decide)
 unfold m1
 split<;>lia
def wT (p s:Po4):Int:=1*p.b*m1 s.a*p.d*m1 s.c
structure StOk (s:Po4):Prop where
 x:Fr 12 s.a s.b
 y:Fr 12 s.c s.d
 gx:Int.gcd s.a s.b=1
 gy:Int.gcd s.c s.d=1
 n0:s.a≠0\/s.c≠0
 lx:(s.a.natAbs:Int)<=40*s.b
 ly:(s.c.natAbs:Int)<=40*s.d
def Zpi:Zf->M O:=Z8 2 (Zn Zs (Zn Zs (Zd 2) 3[1]!) (Jx Cu (Zc ↑1 (Zc (Jx Vt (Zc 4[0]! Zj)) Zj))))
def Zed (o0 o1 o3 o4:Option S){T0 n m a b:Int}(h0:T0.natAbs<=10 ^ 100)(hm:m.natAbs<=10 ^ 100)(ha:a.natAbs<=10 ^ 100):∃sd1,Gy 2 (Yk (Yw 3) (Yk (Yw 4) P9)) (.tup [nD n m,nD a b]) [o0,o1,Jo T0,o3,o4]=.ok sd1 /\
  Zpi sd1=.ok (.nx [o0,o1,Jo (T0*m*m1 a),Io (nD n m),Io (nD a b)]):=by
 refine⟨[o0,o1,Jo T0,Io (nD n m),Io (nD a b)],rfl,?_⟩
 have em:Jx Cu (Zc ↑1 (Zc (Jx Vt (Zc 4[0]! Zj)) Zj)) [o0,o1,Jo T0,Io (nD n m),Io (nD a b)]=.ok (.int (m1 a)):=Xv (aC rfl (Law.a1 (Xv (Law.a1 (Zp rfl rfl (Yx _ _))) (Gh a)))) rfl
 exact Z1 (Zk (Zk rfl (Zp rfl rfl (Yu _ _ _)) (gT (Q7 h0 (by decide)) (Q7 hm (by decide)))) em (gT (Q7 (Qf h0 hm) (by decide)) (Q7 (W2 ha) (by decide))))
def Im {p s:Po4}(hp:PoOk 20 p)(hs:StOk s):Yn [p.D,s.D]=.ok (.im (.int (wT p s))):=by
 have b1:=hp.x.bot
 have b2:=hp.y.bot
 have a1:=hs.x.top
 have a2:=hs.y.top
 have le:∀{j:Nat},j<=100->(10:Nat) ^ j<=10 ^ 100:=fun h=>Vx h
 obtain⟨s1,e1,e2⟩:=Zed (Io p.D) (Io s.D) none none (T0:=1) (n:=p.a) (m:=p.b) (a:=s.a) (b:=s.b) (Nat.pow_pos (by decide)) (Nat.le_trans b1 (le (by decide))) (Nat.le_trans a1 (le (by decide)))
 have h0:((1:Int)*p.b*m1 s.a).natAbs<=10 ^ 100:=Nat.le_trans (Qf (j:=20) (k:=12) (by rw[Int.one_mul];exact b1) (W2 a1)) (le (by decide))
 obtain⟨s2,e3,e4⟩:=Zed (Io p.D) (Io s.D) (Io (nD p.a p.b)) (Io (nD s.a s.b)) (T0:=1*p.b*m1 s.a) (n:=p.c) (m:=p.d) (a:=s.c) (b:=s.d) h0 (Nat.le_trans b2 (le (by decide))) (Nat.le_trans a2 (le (by decide)))
 have z:E4 (Zc (Zd 0) (Zc (Zd 1) Zj)) [Io p.D,Io s.D,Jo 1,none,none]=.ok [.tup [nD p.a p.b,nD s.a s.b],.tup [nD p.c p.d,nD s.c s.d]]:=rfl
 exact(Zdp _ _ _ _).trans (Qb (go (Z1 rfl) (go ((Q3 z).trans ((Q0 e1 e2).trans ((Q0 e3 e4).trans rfl))) (Z6 rfl))))
def Vq {f g:Zf->Qw->Option (Zf×Qw)}{sd sd':Zf}{r r':Qw}{x:Option (Zf×Qw)}(h:f sd r=some (sd',r'))(k:g sd' r'=x):Vc f g sd r=x:=by
 unfold Vc;rw[h];exact k
def Xt {n:Str}{e:Zf->Qw->M D}{sd:Zf}{r r':Qw}{d:D}(h:e sd r=.ok d)(hl:r.length<=900)(hr:Cr n d r=r'):Pq n e sd r=some (sd,r'):=by
 unfold Pq;rw[h]
 show(if r.length<=900 then some (sd,Cr n d r) else none)=_
 rw[if_pos hl,hr]
def Ip {i:Nat}{e:Zf->Qw->M D}{sd:Zf}{r:Qw}{d:D}(h:e sd r=.ok d):Zab i e sd r=some (sd.set i (Io d),r):=by
 unfold Zab;rw[h];rfl
def Zmz {c:Zf->Qw->M Bool}{f g:Zf->Qw->Option (Zf×Qw)}{sd:Zf}{r:Qw}{x:Option (Zf×Qw)}(h:c sd r=.ok true)(k:f sd r=x):Zer c f g sd r=x:=by
 unfold Zer;rw[h];exact k
def Zm0 {c:Zf->Qw->M Bool}{f g:Zf->Qw->Option (Zf×Qw)}{sd:Zf}{r:Qw}{x:Option (Zf×Qw)}(h:c sd r=.ok false)(k:g sd r=x):Zer c f g sd r=x:=by
 unfold Zer;rw[h];exact k
def sg (a:Int):Int:=if a > 0 then 1 else -1
def Wo (a b T:Int):Int:=b*(T/(a.natAbs:Int))
def Xx (n m a:Int):Int:=if a > 0 then m-n%m else n%m
def Gk (n m a b T:Int):Tk:=if a=0 then⟨n,m,n/m,0,T+1,0⟩ else⟨n,m,n/m,sg a,Xx n m a*(Wo a b T/m),Wo a b T⟩
def Al {n m a b T:Int}(hm:Fr 20 n m)(ha:Fr 12 a b)(hT:T.natAbs<=10 ^ 54):Jr [] [nD n m,nD a b,.int T]=some (Gk n m a b T).r:=by
 have sm':=Q7 hm.bot (show 20<=900 by decide)
 have esq:Zv Y3 (Zc (Zd 1) Zj) [none,Io (nD n m),Io (nD a b),Jo T,none,none]=.ok (.int (n/m)):=
  Z2 (Law.a1 rfl) ((Zmo _ _ _).trans (Qb (Z6 (Zk (Zp rfl rfl (Yx _ _)) (Zp rfl rfl (Yu _ _ _)) (D3 hm.pos sm'))))) rfl
 have c0:DL.tB (Zn Ww 2[0]! ↑0) [none,Io (nD n m),Io (nD a b),Jo T,none,none]=.ok (!(a==0)):=by
  refine Qm (Zk (Zp rfl rfl (Yx _ _)) rfl ?_)
  rw[Wm (by simp[D.dep])]
  rfl
 have fin:∀{g:Zf->Qw->Option (Zf×Qw)}{sd':Zf}{r':Qw},g [none,Io (nD n m),Io (nD a b),Jo T,none,none] []=some (sd',r')->Zes 3 2 g [] [nD n m,nD a b,.int T]=some r':=fun {g sd' r'} h=>by
  unfold Zes
  rw[if_pos (show [nD n m,nD a b,D.int T].length=3 from rfl)]
  show Option.map _ (g [none,Io (nD n m),Io (nD a b),Jo T,none,none] [])=_
  rw[h]
  rfl
 unfold Gk
 by_cases h0:a=0
 ·rw[if_pos h0]
  rw[show(!(a==0))=false by simp[h0]] at c0
  exact fin (Vq (Xt rfl (Nat.le_of_ble_eq_true rfl) rfl) (Vq (Xt esq (Nat.le_of_ble_eq_true rfl) rfl) (Vq (Xt rfl (Nat.le_of_ble_eq_true rfl) rfl) (Vq (Xt (d:=.int (T+1)) rfl (Nat.le_of_ble_eq_true rfl) rfl) (Vq (Xt rfl (Nat.le_of_ble_eq_true rfl) rfl) (Zm0 c0 rfl))))))
 ·rw[if_neg h0]
  rw[show(!(a==0))=true by simp[h0]] at c0
  have hn:0<(a.natAbs:Int):=by lia
  have sa:sm (a.natAbs:Int)=true:=Q7 (x:=(a.natAbs:Int)) (k:=12) (by rw[Int.natAbs_natCast];exact ha.top) (by decide)
  have hh:Ao (DL.tB (Zn Rp 2[0]! ↑0)) ↑1 (F6 S0 ↑1) [none,Io (nD n m),Io (nD a b),Jo T,none,none]=.ok (.int (sg a)):=by
   unfold sg
   by_cases hp:a > 0
   ·rw[if_pos hp];exact Rl (Qm (Zk (Zp rfl rfl (Yx _ _)) rfl (Zea hp))) rfl
   ·rw[if_neg hp];exact Tu (Qm (Zk (Zp rfl rfl (Yx _ _)) rfl (Zh4 hp))) rfl
  have dT:(T/(a.natAbs:Int)).natAbs<=10 ^ 54:=Nat.le_trans (Int.natAbs_ediv_le_natAbs _ _) hT
  have el:Zn Zs 2[1]! (Zn Yv (Zd 3) (Jx Vt (Zc 2[0]! Zj))) [none,Io (nD n m),Io (nD a b),Jo T,none,none]=.ok (.int (Wo a b T)):=
   Zk (Zp rfl rfl (Yu _ _ _)) (Zk rfl (Xv (Law.a1 (Zp rfl rfl (Yx _ _))) (Gh a)) (D3 hn sa)) (gT (Q7 ha.bot (by decide)) (Q7 dT (by decide)))
  have lb:(Wo a b T).natAbs<=10 ^ 66:=Qf (j:=12) (k:=54) ha.bot dT
  have em:Zn Q5 1[0]! 1[1]! [none,Io (nD n m),Io (nD a b),Jo T,none,none]=.ok (.int (n%m)):=Zk (Zp rfl rfl (Yx _ _)) (Zp rfl rfl (Yu _ _ _)) (gM hm.pos)
  have dm:(Wo a b T/m).natAbs<=10 ^ 66:=Nat.le_trans (Int.natAbs_ediv_le_natAbs _ _) lb
  have e5:∀r:Qw,r.lookup ("heading":Str)=some (D.int (sg a))->Zga (gB (D2 Rp (Ux "heading") (Ku ↑0))) (Ku (Zn DL.Vs 1[1]! (Zd 4))) (Ku (Zd 4)) [none,Io (nD n m),Io (nD a b),Jo T,Jo (n%m),none] r=.ok (.int (Xx n m a)):=fun r hr=>by
   have hg:Ux "heading" [none,Io (nD n m),Io (nD a b),Jo T,Jo (n%m),none] r=.ok (.int (sg a)):=by unfold Ux;rw[hr]
   have hc:gB (D2 Rp (Ux "heading") (Ku ↑0)) [none,Io (nD n m),Io (nD a b),Jo T,Jo (n%m),none] r=.ok (decide (0<sg a)):=by
    unfold gB D2
    rw[hg]
    rfl
   unfold Zga Xx
   rw[hc]
   unfold sg
   by_cases hp:a > 0
   ·rw[if_pos hp,if_pos hp]
    show Zn DL.Vs 1[1]! (Zd 4) [none,Io (nD n m),Io (nD a b),Jo T,Jo (n%m),none]=_
    exact Zk (Zp rfl rfl (Yu _ _ _)) rfl rfl
   ·rw[if_neg hp,if_neg hp]
    rfl
  have lo:(Xx n m a).natAbs<=10 ^ 21:=by
   have h1:=Int.emod_nonneg n (show m≠0 by have:=hm.pos;lia)
   have h2:=Int.emod_lt_of_pos n hm.pos
   have h3:=hm.bot
   have h4:(10:Nat) ^ 21=10*10 ^ 20:=rfl
   unfold Xx
   split<;>lia
  have e6:∀r:Qw,r.lookup ("lap":Str)=some (D.int (Wo a b T))->D2 Zs (Ku (Zd 5)) (D2 Yv (Ux "lap") (Ku 1[1]!)) [none,Io (nD n m),Io (nD a b),Jo T,Jo (n%m),Jo (Xx n m a)] r=.ok (.int (Xx n m a*(Wo a b T/m))):=fun r hr=>by
   have hg:Ux "lap" [none,Io (nD n m),Io (nD a b),Jo T,Jo (n%m),Jo (Xx n m a)] r=.ok (.int (Wo a b T)):=by unfold Ux;rw[hr]
   have h2:Ku 1[1]! [none,Io (nD n m),Io (nD a b),Jo T,Jo (n%m),Jo (Xx n m a)] r=.ok (.int m):=Zp rfl rfl (Yu _ _ _)
   have h3:D2 Yv (Ux "lap") (Ku 1[1]!) [none,Io (nD n m),Io (nD a b),Jo T,Jo (n%m),Jo (Xx n m a)] r=.ok (.int (Wo a b T/m)):=by
    unfold D2
    rw[hg,M.bind_ok,h2,M.bind_ok]
    exact D3 hm.pos sm'
   unfold D2 at h3 ⊢
   rw[h3]
   exact gT (Q7 lo (by decide)) (Q7 dm (by decide))
  exact fin (Vq (Xt rfl (Nat.le_of_ble_eq_true rfl) rfl) (Vq (Xt esq (Nat.le_of_ble_eq_true rfl) rfl) (Vq (Xt rfl (Nat.le_of_ble_eq_true rfl) rfl) (Vq (Xt (d:=.int (T+1)) rfl (Nat.le_of_ble_eq_true rfl) rfl) (Vq (Xt rfl (Nat.le_of_ble_eq_true rfl) rfl) (Zmz c0 (Vq (Xt hh (Nat.le_of_ble_eq_true rfl) rfl) (Vq (Xt el (Nat.le_of_ble_eq_true rfl) rfl) (Vq (Ip em) (Vq (Ip (e5 _ rfl)) (Xt (e6 _ rfl) (Nat.le_of_ble_eq_true rfl) rfl)))))))))))
section
variable {z:Nat}{n m a b T:Int}
def Fn (h:a=0):Gk n m a b T=⟨n,m,n/m,0,T+1,0⟩:=if_pos h
def Za1 {k:Int}(h:a≠0)(hm:0<m)(hT:T=m*a.natAbs*k):Gk n m a b T=⟨n,m,n/m,sg a,Xx n m a*(b*k),b*(m*k)⟩:=by
 have e1:T/(a.natAbs:Int)=m*k:=by
  rw[hT,show m*(a.natAbs:Int)*k=m*k*a.natAbs by grind]
  exact Int.mul_ediv_cancel _ (by lia)
 have e2:Wo a b T=b*(m*k):=by unfold Wo;rw[e1]
 have e3:b*(m*k)/m=b*k:=by
  rw[show b*(m*k)=b*k*m by grind]
  exact Int.mul_ediv_cancel _ (by lia)
 unfold Gk
 rw[if_neg h,e2,e3]
def Iq (hp:PB z n m):0<Xx n m a/\Xx n m a<m:=by
 have hm:=hp.fr.pos
 have h1:=Int.emod_nonneg n (show m≠0 by lia)
 have h2:=Int.emod_lt_of_pos n hm
 have h3:=Int.mul_ediv_add_emod n m
 have h4:=hp.nw (n/m)
 rw[Int.mul_comm] at h4
 unfold Xx
 split<;>lia
def Zh5 (h:a≠0):(sg a=1/\0<a)\/(sg a = -1/\a<0):=by
 unfold sg
 split<;>lia
def Ir (hp:PB z n m)(z8:z<=8)(hT:0<T)(hb:0<b)(hd:a≠0->∃k,0<k/\T=m*a.natAbs*k):TI z T 0 (Gk n m a b T):=by
 have hm:=hp.fr.pos
 have q0:0<=n/m:=Int.ediv_nonneg (Int.le_of_lt hp.p0) (Int.le_of_lt hm)
 have q1:n/m<z:=(Int.ediv_lt_iff_lt_mul hm).mpr hp.p1
 by_cases h:a=0
 ·rw[Fn h]
  exact⟨hp,z8,q0,q1,Int.le_refl _,.inl ⟨rfl,rfl,rfl⟩⟩
 ·obtain⟨k,k0,e⟩:=hd h
  rw[Za1 h hm e]
  obtain⟨l0,l1⟩:=Iq (a:=a) hp
  have bk:0<b*k:=Int.mul_pos hb k0
  have lp:0<b*(m*k):=Int.mul_pos hb (Int.mul_pos hm k0)
  refine⟨hp,z8,q0,q1,Int.le_of_lt lp,.inr ⟨?_,lp,Int.mul_pos l0 bk,?_⟩⟩
  ·show sg a=1\/sg a = -1
   rcases Zh5 h with⟨q,_⟩|⟨q,_⟩
   ·exact .inl q
   ·exact .inr q
  ·show Xx n m a*(b*k)<=0+b*(m*k)
   have:=Int.mul_le_mul_of_nonneg_right (Int.le_of_lt l1) (Int.le_of_lt bk)
   rw[show b*(m*k)=m*(b*k) by grind]
   lia
def Zox (a:Int):Int:=if a=0 then 1 else a.natAbs
def Zg7:(Gk n m a b T).h*Zox a=a:=by
 unfold Zox
 by_cases h:a=0
 ·rw[Fn h,if_pos h,h];rfl
 ·rw[if_neg h]
  unfold Gk
  rw[if_neg h]
  show sg a*_=_
  rcases Zh5 h with⟨q,r⟩|⟨q,r⟩<;>rw[q]<;>lia
def Am (hp:PB z n m)(hb:0<b)(hl:(a.natAbs:Int)<=40*b)(hd:a≠0->∃k,0<k/\T=m*a.natAbs*k):T<(Gk n m a b T).due+(40:Nat)*(Gk n m a b T).lap:=by
 have hm:=hp.fr.pos
 by_cases h:a=0
 ·rw[Fn h]
  show T<T+1+(40:Nat)*0
  lia
 ·obtain⟨k,k0,e⟩:=hd h
  rw[Za1 h hm e]
  obtain⟨l0,l1⟩:=Iq (a:=a) hp
  show T<Xx n m a*(b*k)+(40:Nat)*(b*(m*k))
  have h1:=Int.mul_pos l0 (Int.mul_pos hb k0)
  have mk:0<m*k:=Int.mul_pos hm k0
  have h2:=Int.mul_le_mul_of_nonneg_right hl (Int.le_of_lt mk)
  have e1:T=a.natAbs*(m*k):=by rw[e];grind
  have e2:((40:Nat):Int)*(b*(m*k))=40*b*(m*k):=by grind
  rw[e2]
  lia
end
def look:Nn->List Yo->List D
 |[],_=>[]
 |(k,l)::r,ks=>if k=ks then l else look r ks
def Za2 (q:Nn)(ks:List Yo):Y2 (qD q) ks=some (.lst (look q ks))\/(Y2 (qD q) ks=none/\look q ks=[]):=by
 induction q with
 |nil=>exact .inr ⟨rfl,rfl⟩
 |cons kl r ih=>
  obtain⟨k,l⟩:=kl
  have e:look ((k,l)::r) ks=if k=ks then l else look r ks:=rfl
  rw[e]
  unfold Y2 qD at *
  rw[List.map_cons,List.find?_cons]
  by_cases h:k=ks
  ·rw[decide_eq_true h,if_pos h]
   exact .inl rfl
  ·rw[decide_eq_false h,if_neg h]
   exact ih
theorem Ds (ks ks':List Yo)(p:D):∀q:Nn,look (Uy ks p q) ks'=if ks=ks' then look q ks'++[p] else look q ks'
 |[]=>by
  unfold Uy look
  split
  ·rfl
  ·rfl
 |(k,l)::r=>by
  unfold Uy
  by_cases h:k=ks
  ·rw[if_pos h]
   subst h
   unfold look
   by_cases h':k=ks'
   ·rw[if_pos h',if_pos h',if_pos h']
   ·rw[if_neg h',if_neg h',if_neg h']
  ·rw[if_neg h]
   unfold look
   rw[Ds ks ks' p r]
   by_cases h':k=ks'
   ·rw[if_pos h',if_pos h',if_neg (fun z=>h (h'.trans z.symm))]
   ·rw[if_neg h',if_neg h']
def Zkn {p:Po4}(hp:PoOk 4 p):Hu p.D=some [.inl (p.a/p.b),.inl (p.c/p.d)]:=by
 have e:∀{x y:Int},Fr 4 x y->Y3 [nD x y]=.ok (.im (.int (x/y))):=fun h=>
  (Zmo _ _ _).trans (Qb (Z6 (Zk (Zp rfl rfl (Yx _ _)) (Zp rfl rfl (Yu _ _ _)) (D3 h.pos (Q7 h.bot (by decide))))))
 have h:Znf [none,none,none,Io p.D,none]=.ok (.tup [.int (p.a/p.b),.int (p.c/p.d)]):=Uz (Z2 (Law.a1 (Zp rfl rfl (Yx _ _))) (e hp.x) rfl) (Z2 (Law.a1 (Zp rfl rfl (Yu _ _ _))) (e hp.y) rfl)
 unfold Hu
 rw[h]
 rfl
theorem Zko:∀(ps:List Po4) (acc:Nn),(∀p∈ps,PoOk 4 p)->∃q,Fg acc (ps.map Po4.D)=some q/\∀x y:Int,look q [.inl x,.inl y]=look acc [.inl x,.inl y]++(ps.filter (Ah x y)).map Po4.D
 |[],acc,_=>⟨acc,rfl,fun _ _=>by simp⟩
 |p::ps,acc,h=>by
  obtain⟨q,e1,e2⟩:=Zko ps (Uy [.inl (p.a/p.b),.inl (p.c/p.d)] p.D acc) (fun r hr=>h r (List.mem_cons_of_mem _ hr))
  refine⟨q,?_,fun x y=>?_⟩
  ·rw[List.map_cons]
   unfold Fg
   rw[Zkn (h p (List.mem_cons_self ..))]
   exact e1
  ·rw[e2,Ds]
   by_cases hs:Ah x y p=true
   ·have hs':=of_decide_eq_true hs
    rw[if_pos (by rw[hs'.1,hs'.2]),List.filter_cons_of_pos hs,List.map_cons,List.append_assoc]
    rfl
   ·have hs':¬(p.a/p.b=x/\p.c/p.d=y):=of_decide_eq_false (Bool.eq_false_iff.mpr hs)
    rw[if_neg (fun z=>hs' (by injection z with z1 z2;injection z1 with z1;injection z2 with z2 _;injection z2 with z2;exact⟨z1,z2⟩)),List.filter_cons_of_neg hs]
def Zee {ps:List Po4}{q:Nn}(h:∀x y:Int,look q [.inl x,.inl y]=look [] [.inl x,.inl y]++(ps.filter (Ah x y)).map Po4.D)(x y:Int):Zd6 (qD q) x y (ps.filter (Ah x y)):=by
 have e:=h x y
 rcases Za2 q [.inl x,.inl y] with k|⟨k1,k2⟩
 ·rw[e] at k
  exact .inl k
 ·refine .inr ⟨k1,?_⟩
  rw[k2] at e
  have:=e.symm
  exact List.map_eq_nil_iff.mp this
section
variable {z:Nat}{TA TB TC N now a b a3 b3 n3 m3 k3:Int}{t t':Tk}
def P4 {a b c d:Int}(h:nD a b=nD c d):a=c/\b=d:=by
 unfold nD at h
 injection h with h
 injection h with h1 h
 injection h1 with h1
 injection h with h2 h
 injection h2 with h2
 exact⟨h1,h2⟩
def Zg8 {p q:Int}(q0:0<q)(g:Int.gcd p q=1){c:Int}(e:p=c*q):q=1:=by
 have h1:q ∣ p:=⟨c,by rw[e,Int.mul_comm]⟩
 have h2:=Int.dvd_coe_gcd h1 (Int.dvd_refl q)
 rw[g] at h2
 have:=Int.le_of_dvd (by decide) h2
 lia
end
def Nz (d:D):Prop:=∃a b c e,d=.tup [nD a b,nD c e]/\Fr 93 a b/\Int.gcd a b=1/\Fr 93 c e/\Int.gcd c e=1
def Dt {d:D}(h:Nz d):d.dep<=10:=by
 obtain⟨a,b,c,e,rfl,_⟩:=h
 simp[nD,D.dep,D.deps]
section
variable {W H z:Nat}{T now:Int}{t u:Tk}{ss:List Sd}{ps:List Po4}{most:Nat}
def Du (h:TI z T now t)(l1:t.lap<=Ja)(n0:0<=now)(n1:now<T)(t1:T<=Ja){w:Int}(w0:0<=w)(w1:w<=T):∃a b,place t w=nD a b/\Fr 93 a b/\Int.gcd a b=1:=by
 unfold place
 by_cases hh:t.h=0
 ·rw[if_pos hh]
  exact⟨_,_,rfl,h.pn.fr.mono (by decide),h.pn.g⟩
 ·rw[if_neg hh]
  have tb:=h.tb l1 n0 n1 t1
  have hl:0<t.lap:=by rcases h.mv with q|q;exact absurd q.1 hh;exact q.2.1
  have bg:=Ag
  have b1:(t.line*t.lap).natAbs<=10 ^ (56+56):=Qf tb.li tb.lap
  have bd:(t.due-w).natAbs<=10 ^ 56:=by
   rw[Ty]
   rcases h.mv with q|⟨_,_,q1,q2⟩
   ·exact absurd q.1 hh
   ·lia
  obtain⟨p,q,e,q0,_,g,_,_⟩:=Ys (t:=t.line*t.lap-t.h*(t.due-w)) (b:=t.lap) hl
  have hline:=h.line
  have z8:=h.z8
  have f:Fr 93 (t.line*t.lap-t.h*(t.due-w)) t.lap:=by
   have eb:(10:Nat) ^ 93=10 ^ 39*Ja:=rfl
   have e39:(1000:Nat)<=10 ^ 39:=by decide
   have k1:1000*Ja<=10 ^ 93:=by rw[eb];exact Nat.mul_le_mul_right _ e39
   have k2:t.line*t.lap<=8*t.lap:=Int.mul_le_mul_of_nonneg_right (by lia) (Int.le_of_lt hl)
   have k3:0<=t.line*t.lap:=Int.mul_nonneg hline.1 (Int.le_of_lt hl)
   rw[Ty] at bd
   refine⟨hl,?_,by lia⟩
   rcases h.mv with q|⟨q1,_⟩
   ·exact absurd q.1 hh
   ·rcases q1 with q1|q1<;>rw[q1]<;>lia
  obtain⟨p',q',e1,f1,_,g1⟩:=Fj f
  exact⟨p',q',e1,f1,g1⟩
def My (wi:WS W H T now t u)(lx:t.lap<=Ja)(ly:u.lap<=Ja)(t1:T<=Ja):Nz (Af t u (Z7 t u T)):=by
 obtain⟨w0,w1,w2,w3⟩:=wi.nxt
 have n0:=wi.n0
 obtain⟨p,q,e1,f1,g1⟩:=Du wi.x lx n0 wi.n1 t1 (show 0<=Z7 t u T by lia) w1
 obtain⟨p',q',e2,f2,g2⟩:=Du wi.y ly n0 wi.n1 t1 (show 0<=Z7 t u T by lia) w1
 refine⟨p,q,p',q',?_,f1,g1,f2,g2⟩
 unfold Af
 rw[e1,e2]
theorem Dv {c:Po4->Option (Int×Int)}:∀(ps:List Po4) (s:Zd3),(∀p xy,s=some (p,xy)->p∈ps\/∃q,s=some q)->∀p xy,ps.foldl (Je c) s=some (p,xy)->p∈ps\/∃xy',s=some (p,xy')
 |[],s,_,p,xy,h=>.inr ⟨xy,h⟩
 |q::ps,s,_,p,xy,h=>by
  rw[List.foldl_cons] at h
  rcases Dv ps (Je c s q) (fun _ _ z=>.inr ⟨_,z⟩) p xy h with k|⟨xy',k⟩
  ·exact .inl (List.mem_cons_of_mem _ k)
  ·unfold Je at k
   split at k
   ·exact .inr ⟨_,k⟩
   ·split at k
    ·cases k;exact .inl (List.mem_cons_self ..)
    ·split at k
     ·cases k;exact .inl (List.mem_cons_self ..)
     ·exact .inr ⟨_,k⟩
def PtOk.is {p:Po4}(h:PtOk W H p):Nz p.D:=⟨_,_,_,_,rfl,h.x.fr.mono (by decide),h.x.g,h.y.fr.mono (by decide),h.y.g⟩
theorem Zef (hp:∀p∈ps,PtOk W H p)(t1:T<=Ja):∀(n:Nat) (t u:Tk) (tn:List D) (now:Int) (d:D),WS W H T now t u->t.lap<=Ja->u.lap<=Ja->(∀x∈tn,Nz x)->tn.length<=most->wk W H ss ps T most n t u tn=some d->∃wd pt tn',d=.tup [.str wd,pt,.lst tn']/\Nz pt/\(∀x∈tn',Nz x)/\tn'.length<=most
 |0,_,_,_,_,_,_,_,_,_,_,h=>by cases h
 |n+1,t,u,tn,now,d,wi,lx,ly,ht,hl,h=>by
  unfold wk at h
  cases ha:Tz ps T t u with
  |some x=>
   obtain⟨p,xy⟩:=x
   rw[ha] at h
   cases h
   refine⟨_,_,_,rfl,?_,ht,hl⟩
   unfold Tz at ha
   rcases Dv _ none (fun _ _ z=>by cases z) p xy ha with k|⟨_,k⟩
   ·exact(hp p (List.mem_filter.mp k).1).is
   ·cases k
  |none=>
   rw[ha] at h
   dsimp only at h
   cases hw:Ko (thing W H ss t u (Z7 t u T)) (decide (Z7 t u T=T)) (decide (tn.length<most)) with
   |some w=>
    rw[hw] at h
    cases h
    exact⟨_,_,_,rfl,My wi lx ly t1,ht,hl⟩
   |none=>
    rw[hw] at h
    dsimp only at h
    refine Zef hp t1 n _ _ _ _ d (wi.step hw) (by rw[V3];exact lx) (by rw[V3];exact ly) ?_ ?_ h
    ·split
     ·intro x hx
      rcases List.mem_append.mp hx with k|k
      ·exact ht x k
      ·rw[List.mem_singleton.mp k];exact My wi lx ly t1
     ·exact ht
    ·split
     ·rename_i hmir
      obtain⟨_,w2⟩:=P3 hw
      rcases w2 with w2|⟨_,w2⟩
      ·rw[w2] at hmir;cases hmir
      ·have:=of_decide_eq_true w2
       rw[List.length_append,List.length_singleton]
       lia
     ·exact hl
end
structure St (W H:Nat) (p:Po4):Prop where
 x:PB W p.a p.b
 y:PB H p.c p.d
 bx:p.b.natAbs<=10 ^ 15
 by':p.d.natAbs<=10 ^ 15
def PtOk.st {W H:Nat}{p:Po4}(h:PtOk W H p):St W H p:=⟨h.x.pb,h.y.pb,Nat.le_trans h.x.fr.bot (Vx (by decide)),Nat.le_trans h.y.fr.bot (Vx (by decide))⟩
def Zeg {W H:Nat}(hW:W<=8)(hH:H<=8){ss:List Sd}(hl:ss.length<=400){ps:List Po4}(hp:∀p∈ps,PtOk W H p)(hps:ps.length<=1000){p s:Po4}(ho:St W H p)(hs:StOk s){most:Nat}(hm:most<=900):
  ∃d,F_walk [Qi W H ss,.lst (ps.map Po4.D),p.D,s.D,.int most]=.ok (.im d)/\wk W H ss ps (wT p s) most 81 (Gk p.a p.b s.a s.b (wT p s)) (Gk p.c p.d s.c s.d (wT p s)) []=some d/\WS W H (wT p s) 0 (Gk p.a p.b s.a s.b (wT p s)) (Gk p.c p.d s.c s.d (wT p s)) /\
   (s.a≠0->wT p s=p.b*s.a.natAbs*(p.d*m1 s.c))/\(s.c≠0->wT p s=p.d*s.c.natAbs*(p.b*m1 s.a))/\0<wT p s/\∃wd pt tn,d=.tup [.str wd,pt,.lst tn]/\Nz pt/\(∀x∈tn,Nz x)/\tn.length<=most:=by
 have px:=ho.x.fr.pos
 have py:=ho.y.fr.pos
 obtain⟨m0,m1'⟩:=Il s.a
 obtain⟨m2,m3⟩:=Il s.c
 have ew:wT p s=1*p.b*m1 s.a*p.d*m1 s.c:=rfl
 have tp:0<wT p s:=by rw[ew,Int.one_mul];exact Int.mul_pos (Int.mul_pos (Int.mul_pos px m0) py) m2
 have tb:(wT p s).natAbs<=10 ^ 54:=by
  rw[ew,Int.one_mul]
  exact Qf (j:=42) (k:=12) (Qf (j:=27) (k:=15) (Qf (j:=15) (k:=12) ho.bx (W2 hs.x.top)) ho.by') (W2 hs.y.top)
 have eX:s.a≠0->wT p s=p.b*s.a.natAbs*(p.d*m1 s.c):=fun h=>by rw[ew,m1' h];grind
 have eY:s.c≠0->wT p s=p.d*s.c.natAbs*(p.b*m1 s.a):=fun h=>by rw[ew,m3 h];grind
 have dx:s.a≠0->∃k,0<k/\wT p s=p.b*s.a.natAbs*k:=fun h=>⟨p.d*m1 s.c,Int.mul_pos py m2,eX h⟩
 have dy:s.c≠0->∃k,0<k/\wT p s=p.d*s.c.natAbs*k:=fun h=>⟨p.b*m1 s.a,Int.mul_pos px m0,eY h⟩
 have t54:wT p s<=Ja:=by have:(10:Nat) ^ 54=Ja:=rfl;lia
 have lx:(Gk p.a p.b s.a s.b (wT p s)).lap<=Ja:=by
  by_cases h:s.a=0
  ·rw[Fn h];show(0:Int)<=_;exact Int.natCast_nonneg _
  ·rw[Za1 h px (eX h)]
   show s.b*(p.b*(p.d*m1 s.c))<=_
   have:(s.b*(p.b*(p.d*m1 s.c))).natAbs<=10 ^ (12+(15+(15+12))):=Qf hs.x.bot (Qf ho.bx (Qf ho.by' (W2 hs.y.top)))
   have e:(10:Nat) ^ (12+(15+(15+12)))=Ja:=rfl
   lia
 have ly:(Gk p.c p.d s.c s.d (wT p s)).lap<=Ja:=by
  by_cases h:s.c=0
  ·rw[Fn h];show(0:Int)<=_;exact Int.natCast_nonneg _
  ·rw[Za1 h py (eY h)]
   show s.d*(p.d*(p.b*m1 s.a))<=_
   have:(s.d*(p.d*(p.b*m1 s.a))).natAbs<=10 ^ (12+(15+(15+12))):=Qf hs.y.bot (Qf ho.by' (Qf ho.bx (W2 hs.x.top)))
   have e:(10:Nat) ^ (12+(15+(15+12)))=Ja:=rfl
   lia
 have ef:=@Im p s ⟨ho.x.fr.mono (by decide),ho.y.fr.mono (by decide)⟩ hs
 generalize hT:wT p s=T at *
 have tx:=Ir (T:=T) ho.x hW tp hs.x.pos dx
 have ty:=Ir (T:=T) ho.y hH tp hs.y.pos dy
 have h1:(Gk p.a p.b s.a s.b T).h≠0\/(Gk p.c p.d s.c s.d T).h≠0:=by
  have e1:=@Zg7 p.a p.b s.a s.b T
  have e2:=@Zg7 p.c p.d s.c s.d T
  rcases hs.n0 with q|q
  ·exact .inl fun z=>q (by rw[<-e1,z,Int.zero_mul])
  ·exact .inr fun z=>q (by rw[<-e2,z,Int.zero_mul])
 have wi:WS W H T 0 (Gk p.a p.b s.a s.b T) (Gk p.c p.d s.c s.d T):=⟨tx,ty,h1,Int.le_refl _,tp,.inl rfl⟩
 obtain⟨d,hd⟩:=Ak (ss:=ss) (ps:=ps) (most:=most) 81 40 40 _ _ [] 0 wi (Am ho.x hs.x.pos hs.lx dx) (Am ho.y hs.y.pos hs.ly dy) (by decide)
 refine⟨d,?_,hd,wi,eX,eY,tp,Zef hp t54 81 _ _ [] 0 d wi lx ly (fun _ z=>by cases z) (Nat.zero_le _) hd⟩
 obtain⟨q,e1,e2⟩:=Zko ps [] fun r hr=>(hp r hr).ok
 refine Zag e1 (by rw[List.length_map];lia) fun a a1 a2=>?_
 unfold fW
 have e0:Zv Yn (Zc (Zd 0) (Zc (Zd 1) Zj)) [Io p.D,Io s.D]=.ok (.int T):=Z2 (aC rfl (Law.a1 rfl)) ef rfl
 have l1:Zc 0[0]! (Zc 1[0]! (Zc (Zd 2) Zj)) [Io p.D,Io s.D,Jo T]=.ok [nD p.a p.b,nD s.a s.b,.int T]:=aC (Zp rfl rfl (Yx _ _)) (aC (Zp rfl rfl (Yx _ _)) (Law.a1 rfl))
 have l2:Zc 0[1]! (Zc 1[1]! (Zc (Zd 2) Zj)) [Io p.D,Io s.D,Jo T]=.ok [nD p.c p.d,nD s.c s.d,.int T]:=aC (Zp rfl rfl (Yu _ _ _)) (aC (Zp rfl rfl (Yu _ _ _)) (Law.a1 rfl))
 rw[e0,M.bind_ok,l1,M.bind_ok,l2,M.bind_ok,Al (ho.x.fr.mono (by decide)) hs.x tb,Al (ho.y.fr.mono (by decide)) hs.y tb]
 exact lw a a1 a2 q p.D s.D (by lia) hp (Zee e2) (by lia) t54 3000 _ _ [] 0 _ wi lx ly (Nat.zero_le _) (Aj 81 3000 _ _ _ _ (by decide) hd)
theorem all_map {α:Type}{f:α->D}:∀l:List D,(∀d∈l,∃s,d=f s)->∃ss:List α,l=ss.map f
 |[],_=>⟨[],rfl⟩
 |d::l,h=>by
  obtain⟨s,rfl⟩:=h d (List.mem_cons_self ..)
  obtain⟨ss,rfl⟩:=all_map l fun e he=>h e (List.mem_cons_of_mem _ he)
  exact⟨s::ss,rfl⟩
def Se (p:Int){m:Nat}(h:1<=m):∃k:Nat,p%(m:Int)=(k:Int)/\k<m:=by
 have q1:0<=p%(m:Int):=Int.emod_nonneg _ (by lia)
 have q2:p%(m:Int)<m:=Int.emod_lt_of_pos _ (by lia)
 exact⟨(p%(m:Int)).toNat,by lia,by lia⟩
def Zg9 (s:Sd):List V:=[.str (if s.up=true then Str.ofString "up" else Str.ofString "flat"),.int s.x,.int s.y,.str (if s.f=true then Str.ofString "m" else Str.ofString "p"),.str (if s.g=true then Str.ofString "m" else Str.ofString "p")]
theorem Iu:∀ss:List Sd,S3 (ss.map Sd.D)=some (ss.map Zg9)
 |[]=>rfl
 |s::ss=>by
  show(match some (Zg9 s),S3 (ss.map Sd.D) with|some v,some vs=>some (v::vs)|_,_=>none)=_
  rw[Iu ss]
  rfl
def N0 {x y:V}{xs ys:List V}(e:∃c,Zmb x y=some c)(l:∃c,Znc x y=some c)(r:∃b,Zf0 xs ys=some b):∃b,Zf0 (x::xs) (y::ys)=some b:=by
 obtain⟨c,e⟩:=e
 unfold Zf0
 rw[e]
 cases c
 ·exact l
 ·exact r
def Zkp (s t:Sd):∃b,Zf0 (Zg9 s) (Zg9 t)=some b:=N0 ⟨_,rfl⟩ ⟨_,rfl⟩ (N0 ⟨_,rfl⟩ ⟨_,rfl⟩ (N0 ⟨_,rfl⟩ ⟨_,rfl⟩ (N0 ⟨_,rfl⟩ ⟨_,rfl⟩ (N0 ⟨_,rfl⟩ ⟨_,rfl⟩ ⟨false,rfl⟩))))
def Zha (ss:List Sd)(hl:ss.length<64):∃ts:List Sd,ts.length=ss.length/\S5 [.lst (ss.map Sd.D)]=.ok (.lst (ts.map Sd.D)):=by
 obtain⟨es,hp,e⟩:=Eu (Iu ss) (by rw[List.length_map];exact hl) (by
  rw[Bool.or_eq_true]
  refine .inl (List.all_eq_true.mpr fun y hy=>?_)
  obtain⟨s,_,rfl⟩:=List.mem_map.mp hy
  rfl) (by rw[List.length_map,List.length_map]) fun x hx y hy=>by
  obtain⟨s,_,rfl⟩:=List.mem_map.mp hx
  obtain⟨t,_,rfl⟩:=List.mem_map.mp hy
  exact⟨rfl,Zkp s t⟩
 obtain⟨ts,rfl⟩:=all_map (f:=Sd.D) es fun d hd=>by
  obtain⟨s,_,rfl⟩:=List.mem_map.mp (hp.mem_iff.mp hd)
  exact⟨s,rfl⟩
 have:=hp.length_eq
 rw[List.length_map,List.length_map] at this
 exact⟨ts,this,e⟩
theorem Zm1 {α:Type}{gt:D->Zf->M Zf}{fc:Zf->M Bool}{fe:Zf->M D}{sd0:Zf}(e g:α->D)(q:α->Bool):∀l:List α,(∀a∈l,∃sd1,gt (e a) sd0=.ok sd1/\fc sd1=.ok (q a)/\fe sd1=.ok (g a))->Pp gt fc fe sd0 (l.map e)=.ok ((l.filter q).map g)
 |[],_=>rfl
 |a::l,h=>by
  obtain⟨sd1,h1,h2,h3⟩:=h a (by simp)
  have ih:=Zm1 (gt:=gt) (fc:=fc) (fe:=fe) (sd0:=sd0) e g q l fun b hb=>h b (by simp[hb])
  rw[List.map_cons]
  cases z:q a with
  |true=>
   rw[z] at h2
   rw[List.filter_cons_of_pos z]
   simp only[Pp,h1,h2,h3,ih,List.map_cons]
  |false=>
   rw[z] at h2
   rw[List.filter_cons_of_neg (by rw[z];decide)]
   simp only[Pp,h1,h2,ih]
theorem mpm (s:String) (h:s="mpm" \/ s="mmp") (g:Int):∃b:Bool,Jg (.str (Str.ofString s)) (.int (g%3))=.ok (fc b):=by
 have:g%3=0\/g%3=1\/g%3=2:=by lia
 rcases h with rfl|rfl<;>rcases this with e|e|e<;>rw[e]
 ·exact⟨true,rfl⟩
 ·exact⟨false,rfl⟩
 ·exact⟨true,rfl⟩
 ·exact⟨true,rfl⟩
 ·exact⟨true,rfl⟩
 ·exact⟨false,rfl⟩
def Zm2 (m:Nat)(f:Zf->M O)(a0 a1 a2 a3 a4 a5:D):V8 6 m f [a0,a1,a2,a3,a4,a5]=Gz (f ([some (S.im a0),some (S.im a1),some (S.im a2),some (S.im a3),some (S.im a4),some (S.im a5)]++List.replicate m none)):=rfl
def Zhb (u:Bool)(x y t en g:Int):∃ts:List Sd,ts.length<=1/\V2 [kd u,.int x,.int y,.int t,.int en,.int g]=.ok (.im (.lst (ts.map Sd.D))):=by
 obtain⟨o,eo⟩:=mpm "mpm" (.inl rfl) g
 obtain⟨p,ep⟩:=mpm "mmp" (.inr rfl) (g/3)
 have s3:sm 3=true:=Wl (by decide) (by decide)
 have s9:sm 9=true:=Wl (by decide) (by decide)
 have g1:∀r:List (Option S),Zn Jg ↑"mpm" (Zn Q5 (Zd 5) ↑3) (Io (kd u)::Jo x::Jo y::Jo t::Jo en::Jo g::r)=.ok (fc o):=fun r=>Zk rfl (Zk rfl rfl (gM (by decide))) eo
 have g2:∀r:List (Option S),Zn Jg ↑"mmp" (Zn Q5 (Zn Yv (Zd 5) ↑3) ↑3) (Io (kd u)::Jo x::Jo y::Jo t::Jo en::Jo g::r)=.ok (fc p):=fun r=>Zk rfl (Zk (Zk rfl rfl (D3 (by decide) s3)) rfl (gM (by decide))) ep
 obtain⟨b1,c1⟩:∃b:Bool,∀r:List (Option S),DL.tB (Wb T7 T7 ↑0 (Zd 3) (Zd 4)) (Io (kd u)::Jo x::Jo y::Jo t::Jo en::Jo g::r)=.ok b:=by
  by_cases h:(0:Int)<t
  ·by_cases h2:t<en
   ·exact⟨true,fun r=>Qm (by simp[Wb,eC,Zd,T7,A6,asB,M.bind,h,h2])⟩
   ·exact⟨false,fun r=>Qm (by simp[Wb,eC,Zd,T7,A6,asB,M.bind,h,h2])⟩
  ·exact⟨false,fun r=>Qm (by simp[Wb,eC,Zd,T7,A6,asB,M.bind,h])⟩
 have c2:∀r:List (Option S),DL.tB (Zn Rp (Zn Q5 (Zn Yv (Zd 5) ↑9) ↑3) ↑0) (Io (kd u)::Jo x::Jo y::Jo t::Jo en::Jo g::r)=.ok (decide (0<g/9%3)):=fun r=>Qm (Zk (Zk (Zk rfl rfl (D3 (by decide) s9)) rfl (gM (by decide))) rfl rfl)
 have c3:∀r:List (Option S),DL.tB (Zn Jw (Zn Q5 (Zn Yv (Zd 5) ↑9) ↑6) ↑5) (Io (kd u)::Jo x::Jo y::Jo t::Jo en::Jo g::r)=.ok (g/9%6==5):=fun r=>Qm (Zk (Zk (Zk rfl rfl (D3 (by decide) s9)) rfl (gM (by decide))) rfl (X9 _ _))
 have c4:∀r:List (Option S),DL.tB (Zn Jw (Zd 3) ↑0) (Io (kd u)::Jo x::Jo y::Jo t::Jo en::Jo g::r)=.ok (t==0):=fun r=>Qm (Zk rfl rfl (X9 _ _))
 have c5:∀r:List (Option S),DL.tB (Zn Jw (Zd 3) (Zd 4)) (Io (kd u)::Jo x::Jo y::Jo t::Jo en::Jo g::r)=.ok (t==en):=fun r=>Qm (Zk rfl rfl (X9 _ _))
 have tt:=fun r=>Zke (Zkf (c1 r) (c2 r)) (Zkf (Zmr (c1 r)) (c3 r))
 generalize ((b1&&decide (0<g/9%3))||((!b1)&&(g/9%6==5)))=b at tt
 cases b with
 |true=>exact⟨[],by simp,(Zm2 _ _ _ _ _ _ _ _).trans (Qb (go (Z1 (g1 _)) (go (Z1 (g2 _)) (Yy (Qp (tt _) (Z6 rfl))))))⟩
 |false=>
  refine⟨[⟨u,x,y,if t==0 then false else o,if t==en then false else p⟩],by simp,(Zm2 _ _ _ _ _ _ _ _).trans (Qb (go (Z1 (g1 _)) (go (Z1 (g2 _)) (go (Z0 (tt _)) ?_))))⟩
  cases q1:(t==0) with
  |true=>
   refine go (Qp ((c4 _).trans (by rw[q1])) rfl) ?_
   cases q2:(t==en) with
   |true=>exact go (Qp ((c5 _).trans (by rw[q2])) rfl) (Z6 rfl)
   |false=>exact go (Z0 ((c5 _).trans (by rw[q2]))) (Z6 rfl)
  |false=>
   refine go (Z0 ((c4 _).trans (by rw[q1]))) ?_
   cases q2:(t==en) with
   |true=>exact go (Qp ((c5 _).trans (by rw[q2])) rfl) (Z6 rfl)
   |false=>exact go (Z0 ((c5 _).trans (by rw[q2]))) (Z6 rfl)
def Zkq (r:List (Option S))(v0 v1 v2:Option S)(ns:List Int)(n:Int):Cn 3 (v0::v1::v2::some (.ow ((ns++[n]).map D.int))::r)=.ok (.int n,v0::v1::v2::some (.ow (ns.map D.int))::r):=by
 unfold Cn
 show(match ((ns++[n]).map D.int)[((ns++[n]).map D.int).length-1]? with|some d=>M.ok (d,_)|none=>.bad)=_
 rw[List.length_map,List.length_append,List.length_singleton,Nat.add_sub_cancel,List.map_append,List.map_cons,List.map_nil]
 rw[List.getElem?_append_right (by simp),List.length_map,Nat.sub_self]
 simp
def N3 (v0:Option S)(W H:Nat)(ns:List Int)(ss:List Sd)(v5 v6:Option S):Zf:=[v0,Jo (W:Int),Jo (H:Int),some (.ow (ns.map D.int)),Io (.lst (ss.map Sd.D)),v5,v6]
noncomputable def Zk5 (k:String)(i j:Nat):Zf->M O:=(Cp 4 (Zmc Qg (Zd 4) (Me V2 (Yl (eC (.str (Str.ofString k))) (Yl (Zd 5) (Yl (Zd 6) (Yl (Zd i) (Yl (Zd j) (Pn (Cn 3))))))))))
def Iv (u:Bool)(v0:Option S){W H x y:Nat}(ns:List Int)(n:Int)(ss:List Sd)(hl:ss.length<=900):
  ∃ss',ss'.length<=ss.length+1/\Zk5 (if u=true then "up" else "flat") (if u=true then 5 else 6) (if u=true then 1 else 2) (N3 v0 W H (ns++[n]) ss (Jo (x:Int)) (Jo (y:Int)))=.ok (.nx (N3 v0 W H ns ss' (Jo (x:Int)) (Jo (y:Int)))):=by
 obtain⟨ts,ht,hf⟩:=Zhb u x y (if u=true then x else y) (if u=true then W else H) n
 have pp:=Zkq [Io (.lst (ss.map Sd.D)),Jo (x:Int),Jo (y:Int)] v0 (Jo (W:Int)) (Jo (H:Int)) ns n
 refine⟨ss++ts,by rw[List.length_append];lia,?_⟩
 have ar:(Yl (eC (.str (Str.ofString (if u=true then "up" else "flat")))) (Yl (Zd 5) (Yl (Zd 6) (Yl (Zd (if u=true then 5 else 6)) (Yl (Zd (if u=true then 1 else 2)) (Pn (Cn 3))))))) (N3 v0 W H (ns++[n]) ss (Jo (x:Int)) (Jo (y:Int)))=.ok ([kd u,.int x,.int y,.int (if u=true then x else y),.int (if u=true then W else H),.int n],N3 v0 W H ns ss (Jo (x:Int)) (Jo (y:Int))):=by
  unfold Yl Pn N3
  rw[pp]
  cases u<;>rfl
 unfold Zk5 Cp Zmc Me
 rw[ar]
 simp only[M.bind_ok]
 rw[hf]
 show((Qg (.lst (ss.map Sd.D)) (.lst (ts.map Sd.D))).bind fun z=>M.ok (z,N3 v0 W H ns ss (Jo (x:Int)) (Jo (y:Int)))).bind _=_
 rw[Zds (by rw[List.length_map,List.length_map];lia),<-List.map_append]
 rfl
def Zhc {ns:List Int}{k:Nat}(h:k+1<=ns.length):∃ms n,ns=ms++[n]/\k<=ms.length:=by
 have hne:ns≠[]:=by intro q;rw[q] at h;simp at h
 exact⟨ns.dropLast,ns.getLast hne,(List.dropLast_concat_getLast hne).symm,by rw[List.length_dropLast];lia⟩
theorem An (v0:Option S){W H x:Nat}{B:Zf->M O}(turn:∀(y:Nat) (ns:List Int) (n:Int) (ss:List Sd),ss.length<=900->∃ss',ss'.length<=ss.length+1/\B (N3 v0 W H (ns++[n]) ss (Jo (x:Int)) (Jo (y:Int)))=.ok (.nx (N3 v0 W H ns ss' (Jo (x:Int)) (Jo (y:Int))))):
  ∀(ys:List Nat) (ns:List Int) (ss:List Sd) (v6:Option S) (j:Nat),j+ys.length<=ns.length->ss.length+ys.length<=900 ->
  ∃ns' ss' v6',ss'.length<=ss.length+ys.length/\j<=ns'.length/\Y1 (Yw 6) B (ys.map fun(y:Nat)=>D.int (y:Int)) (N3 v0 W H ns ss (Jo (x:Int)) v6)=.ok (.nx (N3 v0 W H ns' ss' (Jo (x:Int)) v6'))
 |[],ns,ss,v6,j,hj,hl=>⟨ns,ss,v6,by simp,by simpa using hj,rfl⟩
 |y::ys,ns,ss,v6,j,hj,hl=>by
  rw[List.length_cons] at hj hl
  obtain⟨ms,n,rfl,hm⟩:=Zhc (k:=j+ys.length) (ns:=ns) (by lia)
  obtain⟨s1,l1,e1⟩:=turn y ms n ss (by lia)
  obtain⟨ns',ss',v6',l2,l3,e2⟩:=An v0 turn ys ms s1 (Jo (y:Int)) j hm (by lia)
  exact⟨ns',ss',v6',by rw[List.length_cons];lia,l3,(Q0 (sd1:=N3 v0 W H (ms++[n]) ss (Jo (x:Int)) (Jo (y:Int))) rfl e1).trans e2⟩
theorem T2 (v0:Option S){W H m:Nat}{F:Zf->M O}(turn:∀(x j:Nat) (ns:List Int) (ss:List Sd) (v6:Option S),j+m<=ns.length->ss.length+m<=900->∃ns' ss' v6',ss'.length<=ss.length+m/\j<=ns'.length/\F (N3 v0 W H ns ss (Jo (x:Int)) v6)=.ok (.nx (N3 v0 W H ns' ss' (Jo (x:Int)) v6'))):
  ∀(xs:List Nat) (ns:List Int) (ss:List Sd) (v5 v6:Option S) (j:Nat),j+xs.length*m<=ns.length->ss.length+xs.length*m<=900 ->
  ∃ns' ss' v5' v6',ss'.length<=ss.length+xs.length*m/\j<=ns'.length/\Y1 (Yw 5) F (xs.map fun(y:Nat)=>D.int (y:Int)) (N3 v0 W H ns ss v5 v6)=.ok (.nx (N3 v0 W H ns' ss' v5' v6'))
 |[],ns,ss,v5,v6,j,hj,hl=>⟨ns,ss,v5,v6,by simp,by simpa using hj,rfl⟩
 |x::xs,ns,ss,v5,v6,j,hj,hl=>by
  rw[List.length_cons,Nat.add_mul,Nat.one_mul] at hj hl
  obtain⟨n1,s1,v61,l1,j1,e1⟩:=turn x (j+xs.length*m) ns ss v6 (by lia) (by lia)
  obtain⟨ns',ss',v5',v6',l2,l3,e2⟩:=T2 v0 turn xs n1 s1 (Jo (x:Int)) v61 j j1 (by lia)
  exact⟨ns',ss',v5',v6',by rw[List.length_cons,Nat.add_mul,Nat.one_mul];lia,l3,(Q0 (sd1:=N3 v0 W H ns ss (Jo (x:Int)) v6) rfl e1).trans e2⟩
def Zkr (c:Int){W H:Nat}(hW:W<=3)(hH:H<=3):∃ss:List Sd,ss.length<=400/\Nt [.int c,.int (W:Int),.int (H:Int)]=.ok (.im (Qi W H ss)):=by
 have w72:(W+1)*H<=4*3:=Nat.mul_le_mul (by lia) hH
 have w73:W*(H+1)<=3*4:=Nat.mul_le_mul hW (by lia)
 have w1:(W+1)*H=W*H+H:=by rw[Nat.add_mul,Nat.one_mul]
 have w2:W*(H+1)=W*H+W:=by rw[Nat.mul_add,Nat.mul_one]
 obtain⟨es,hes,_,en⟩:=Mr c (2*(W*H)+W+H) (by lia)
 have cnt:Zn Qg (Zn Qg (Zn Zs (Zn Zs ↑2 (Zd 1)) (Zd 2)) (Zd 1)) (Zd 2) [Jo c,Jo (W:Int),Jo (H:Int),none,none,none,none]=.ok (.int ((2*(W*H)+W+H:Nat):Int)):=by
  refine(Zk (Zk (Zk (Zk rfl rfl (gT (Wl (by decide) (by decide)) (Wl (by lia) (by lia)))) rfl (gT (Wl (by lia) (by lia)) (Wl (by lia) (by lia)))) rfl rfl) rfl rfl).trans ?_
  show M.ok (D.int (2*(W:Int)*(H:Int)+W+H))=_
  congr 2
  rw[Int.mul_assoc]
  push_cast
  rfl
 have own:Wy 3 (Rc Xn (Zc (Zd 0) (Zc (Zn Qg (Zn Qg (Zn Zs (Zn Zs ↑2 (Zd 1)) (Zd 2)) (Zd 1)) (Zd 2)) Zj))) [Jo c,Jo (W:Int),Jo (H:Int),none,none,none,none]=.ok (.nx [Jo c,Jo (W:Int),Jo (H:Int),some (.ow (es.map D.int)),none,none,none]):=by
  unfold Wy Rc
  rw[aC (d:=.int c) rfl (Law.a1 cnt),M.bind_ok,en]
  rfl
 obtain⟨n1,s1,v5,v6,l1,j1,e1⟩:=T2 (Jo c) (W:=W) (H:=H) (m:=H) (F:=Xr (X4 (Zc (Zd 2) Zj)) (Yw 6) (Zk5 "up" 5 1)) (fun x j ns ss v6 hj hl=>by
  obtain⟨ns',ss',v6',a2,a3,a4⟩:=An (Jo c) (W:=W) (H:=H) (x:=x) (B:=Zk5 "up" 5 1) (fun y ns n ss hl=>Iv true _ ns n ss hl) (List.range H) ns ss v6 j (by rw[List.length_range];exact hj) (by rw[List.length_range];exact hl)
  rw[List.length_range] at a2
  exact⟨ns',ss',v6',a2,a3,(Q3 (Zk4 (n:=H) (Law.a1 rfl) (by lia))).trans a4⟩) (List.range (W+1)) es [] none none (W*(H+1)) (by rw[hes,List.length_range];lia) (by rw[List.length_range];simp;lia)
 rw[List.length_range] at l1
 obtain⟨n2,s2,v5',v6',l2,j2,e2⟩:=T2 (Jo c) (W:=W) (H:=H) (m:=H+1) (F:=Xr (X4 (Zc (Zn Qg (Zd 2) ↑1) Zj)) (Yw 6) (Zk5 "flat" 6 2)) (fun x j ns ss v6 hj hl=>by
  obtain⟨ns',ss',v6',a2,a3,a4⟩:=An (Jo c) (W:=W) (H:=H) (x:=x) (B:=Zk5 "flat" 6 2) (fun y ns n ss hl=>Iv false _ ns n ss hl) (List.range (H+1)) ns ss v6 j (by rw[List.length_range];exact hj) (by rw[List.length_range];exact hl)
  rw[List.length_range] at a2
  exact⟨ns',ss',v6',a2,a3,(Q3 (Zk4 (n:=H+1) (Law.a1 rfl) (by lia))).trans a4⟩) (List.range W) n1 s1 v5 v6 0 (by rw[List.length_range];lia) (by rw[List.length_range];simp at l1;lia)
 rw[List.length_range] at l2
 have l3:s2.length<=24:=by simp at l1;lia
 obtain⟨ts,lt,et⟩:=Zha s2 (by lia)
 exact⟨ts,by lia,(Zgq _ _ _ _ _).trans (Qb (go own (go (Z1 (d:=.lst []) (B7 rfl (Kn (by show(0:Nat)<=1000000;decide)))) (go ((Q3 (Zk4 (n:=W+1) (Law.a1 rfl) (by lia))).trans e1) (go ((Q3 (Zk4 (n:=W) (Law.a1 rfl) (by lia))).trans e2) (Z6 (Ae rfl rfl (Xv (Law.a1 (d:=.lst (ts.map Sd.D)) (Xv (Law.a1 rfl) et)) rfl))))))))⟩
def Zks {a b c t:Int}(hc:0<c):t∈Ap a c (Ri a b c)↔a<=t/\t<b/\c ∣ t-a:=by
 unfold Ap
 rw[List.mem_map]
 constructor
 ·rintro⟨i,hi,rfl⟩
  have hi:=List.mem_range.mp hi
  unfold Ri at hi
  split at hi
  ·have h0:0<=(b-a-1)/c:=Int.ediv_nonneg (by lia) (by lia)
   have h1:(i:Int)<=(b-a-1)/c:=by lia
   have h2:=(Int.le_ediv_iff_mul_le hc).mp h1
   have h3:=Int.mul_nonneg (show(0:Int)<=i by lia) (Int.le_of_lt hc)
   exact⟨by lia,by lia,⟨i,by rw[Int.mul_comm];lia⟩⟩
  ·lia
 ·rintro⟨h1,h2,⟨k,hk⟩⟩
  have k0:0<=k:=by
   rcases Int.lt_or_le k 0 with z|z
   ·have:=Int.mul_neg_of_pos_of_neg hc z
    lia
   ·exact z
  have k1:k<=(b-a-1)/c:=(Int.le_ediv_iff_mul_le hc).mpr (by rw[Int.mul_comm];lia)
  refine⟨k.toNat,List.mem_range.mpr ?_,?_⟩
  ·unfold Ri
   rw[if_pos (by lia)]
   lia
  ·rw[Int.toNat_of_nonneg k0,Int.mul_comm]
   lia
def Dw {a c:Int}(hc:0<c)(n:Nat):(Ap a c n).Nodup:=by
 unfold Ap
 refine List.pairwise_map.mpr (List.nodup_range.imp fun {i j} h z=>h ?_)
 have:(i:Int)*c=(j:Int)*c:=by lia
 have:=Int.eq_of_mul_eq_mul_right (by lia) this
 lia
def Zh6 {k F c:Int}(hc:0<c)(hF:0<=F)(t:Int):t∈Ap ((k+F)%c-F) c (Ri ((k+F)%c-F) (F+1) c) ↔ -F<=t/\t<=F/\c ∣ t-k:=by
 have m0:=Int.emod_nonneg (k+F) (show c≠0 by lia)
 have m1:=Int.emod_lt_of_pos (k+F) hc
 have m2:=Int.emod_add_mul_ediv (k+F) c
 rw[Zks hc]
 generalize (k+F)%c=r at *
 generalize (k+F)/c=w at *
 constructor
 ·rintro⟨h1,h2,⟨x,hx⟩⟩
  refine⟨by lia,by lia,⟨x-w,?_⟩⟩
  rw[Int.mul_sub];lia
 ·rintro⟨h1,h2,⟨x,hx⟩⟩
  refine⟨?_,by lia,⟨x+w,by rw[Int.mul_add];lia⟩⟩
  have e:t-(r-F)=c*(x+w):=by rw[Int.mul_add];lia
  rcases Int.lt_or_le (x+w) 0 with z|z
  ·have:=Int.mul_le_mul_of_nonneg_left (show x+w <= -1 by lia) (Int.le_of_lt hc)
   lia
  ·have:=Int.mul_nonneg (Int.le_of_lt hc) z
   lia
def Zoy:Zf->M O:=(Zu (Z8 9 (Zn DL.Vs (Zn Q5 (Zn Qg (Zn DL.Vs (Zd 8) (Zd 4)) (Zd 6)) (Zn Zs ↑2 (Zd 3))) (Zd 6)))
   (Z8 7 (Zn Qg (Zd 7) (Zj8 (Zc (Zd 9) (Zc (Zn Qg (Zd 6) ↑1) (Zc (Zn Zs ↑2 (Zd 3)) Zj)))))))
def Fo {k F c:Int}{R:Nat}(hc:0<c)(hF:F+F<=(R:Int)*c):Ri ((k+F)%c-F) (F+1) c<=R+1:=by
 have m0:=Int.emod_nonneg (k+F) (show c≠0 by lia)
 unfold Ri
 split
 ·have h1:(F+1-((k+F)%c-F)-1)/c<=(R:Int):=by
   have:=Int.ediv_le_ediv hc (show F+1-((k+F)%c-F)-1<=(R:Int)*c by lia)
   rwa[Int.mul_ediv_cancel _ (by lia)] at this
  lia
 ·lia
def Iw (o0 o1 o2:Option S){B b e F im:Int}{R:Nat}(B0:0<B)(B1:B<=1000000)(bb:b.natAbs<=8000000)(ib:im.natAbs<=8000000)(hR:R<=20)(hF:F=(R:Int)*B)(ts:List Int)(hl:ts.length<=100)(v9:Option S):
  Zoy [o0,o1,o2,Jo B,Jo b,Jo e,Jo F,Io (.lst (ts.map D.int)),Jo im,v9]=.ok (.nx [o0,o1,o2,Jo B,Jo b,Jo e,Jo F,Io (.lst ((ts++Ap ((im-b+F)%(2*B)-F) (2*B) (Ri ((im-b+F)%(2*B)-F) (F+1) (2*B))).map D.int)),Jo im,Jo ((im-b+F)%(2*B)-F)]):=by
 have F0:0<=F:=by rw[hF];exact Int.mul_nonneg (by lia) (by lia)
 have F1:F<=20*1000000:=by rw[hF];exact Int.mul_le_mul (by lia) B1 (by lia) (by decide)
 have m0:=Int.emod_nonneg (im-b+F) (show 2*B≠0 by lia)
 have m1:=Int.emod_lt_of_pos (im-b+F) (show 0<2*B by lia)
 have g2:∀r:List (Option S),Zn Zs ↑2 (Zd 3) (o0::o1::o2::Jo B::r)=.ok (.int (2*B)):=fun r=>Zk rfl rfl (gT (Wl (by decide) (by decide)) (Wl (by lia) (by lia)))
 have fw:=Fo (k:=im-b) (F:=F) (c:=2*B) (R:=R) (by lia) (by rw[hF];lia)
 have e60:(2:Int) ^ 60=1152921504606846976:=by decide
 refine go (Z1 (d:=.int ((im-b+F)%(2*B)-F)) (Zk (Zk (Zk (Zk rfl rfl rfl) rfl rfl) (g2 _) (gM (by lia))) rfl rfl)) (Z1 (Zk (x:=.lst (ts.map D.int)) rfl (y:=.lst ((Ap ((im-b+F)%(2*B)-F) (2*B) (Ri ((im-b+F)%(2*B)-F) (F+1) (2*B))).map D.int)) ?_ ?_))
 ·have ea:Zc (Zd 9) (Zc (Zn Qg (Zd 6) ↑1) (Zc (Zn Zs ↑2 (Zd 3)) Zj)) [o0,o1,o2,Jo B,Jo b,Jo e,Jo F,Io (.lst (ts.map D.int)),Jo im,Jo ((im-b+F)%(2*B)-F)]=.ok [.int ((im-b+F)%(2*B)-F),.int (F+1),.int (2*B)]:=aC rfl (aC rfl (Law.a1 (g2 _)))
  show(Zc (Zd 9) (Zc (Zn Qg (Zd 6) ↑1) (Zc (Zn Zs ↑2 (Zd 3)) Zj)) [o0,o1,o2,Jo B,Jo b,Jo e,Jo F,Io (.lst (ts.map D.int)),Jo im,Jo ((im-b+F)%(2*B)-F)]).bind Zj7=_
  rw[ea,M.bind_ok]
  show(if Zmi _ _ _=true then _ else _)=_
  rw[if_pos]
  unfold Zmi
  refine decide_eq_true ⟨?_,?_,?_,?_,?_,?_,?_⟩<;>(try rw[e60])<;>lia
 ·rw[List.map_append]
  exact Zds (by rw[List.length_map,List.length_map,Bo];lia)
structure Tops (n1 m1 n2 m2:Int) (R:Nat) (ts:List Int):Prop where
 lt:ts.Pairwise (· < ·)
 mem:∀t,t∈ts ↔ -((R:Int)*(m1*m2))<=t/\t<=(R:Int)*(m1*m2)/\(2*(m1*m2) ∣ t-(n2*m1-n1*m2)\/2*(m1*m2) ∣ t-(-(n2*m1)-n1*m2))
 few:ts.length<=2*R+2
def Jv {z:Nat}{p q:Int}(h:PIn z p q)(z8:z<=8):0<q/\q<=1000/\0<p/\p<8000:=by
 have h1:=h.fr.pos
 have h2:=h.q3
 have h3:=h.p0
 have h4:=h.p1
 have:(z:Int)*q<=8*1000:=Int.mul_le_mul (by lia) h2 (by lia) (by decide)
 exact⟨h1,h2,h3,by lia⟩
def Zm3 {l:List Int}(h:l.Pairwise (·<=·))(nd:l.Nodup):l.Pairwise (· < ·):=by
 refine(h.and nd).imp fun {a b} q=>?_
 have:=q.1
 have:=q.2
 lia
theorem Ix:∀l:List Int,U6 (l.map D.int)=some l
 |[]=>rfl
 |i::l=>by
  show(U6 (l.map D.int)).map (i::·)=_
  rw[Ix l]
  rfl
def Iy {z:Nat}(z8:z<=8){n1 m1 n2 m2:Int}(h1:PIn z n1 m1)(h2:PIn z n2 m2){R:Nat}(hR:R<=20):∃ts:List Int,Tops n1 m1 n2 m2 R ts/\Yr [nD n1 m1,nD n2 m2,.int (R:Int)]=.ok (.ow (ts.map fun t=>Qq t (m1*m2))):=by
 obtain⟨a1,a2,a3,a4⟩:=Jv h1 z8
 obtain⟨c1,c2,c3,c4⟩:=Jv h2 z8
 have B0:0<m1*m2:=Int.mul_pos a1 c1
 have B1:m1*m2<=1000*1000:=Int.mul_le_mul a2 c2 (by lia) (by decide)
 have b0:0<n1*m2:=Int.mul_pos a3 c1
 have b1:n1*m2<=8000*1000:=Int.mul_le_mul (by lia) c2 (by lia) (by decide)
 have e0:0<n2*m1:=Int.mul_pos c3 a1
 have e1:n2*m1<=8000*1000:=Int.mul_le_mul (by lia) a2 (by lia) (by decide)
 have dj:¬2*(m1*m2) ∣ 2*(n2*m1):=fun⟨k,hk⟩=>h2.nw k (by
  have:m1*(k*m2)=m1*n2:=by grind
  exact Int.eq_of_mul_eq_mul_left (by lia) this)
 have q2:m1*m2=m1*m2:=rfl
 generalize hB:m1*m2=B at *
 generalize hb:n1*m2=b at *
 generalize he:n2*m1=e at *
 have F0:0<=(R:Int)*B:=Int.mul_nonneg (by lia) (by lia)
 have F1:(R:Int)*B<=20*1000000:=Int.mul_le_mul (by lia) (by lia) (by lia) (by decide)
 generalize hF:(R:Int)*B=F at *
 have t1:=Iw (Io (nD n1 m1)) (Io (nD n2 m2)) (Jo (R:Int)) (e:=e) (im:=e) B0 (by lia) (b:=b) (by lia) (by lia) hR hF.symm [] (by simp) none
 have f1:=Fo (k:=e-b) (F:=F) (c:=2*B) (R:=R) (by lia) (by rw[<-hF];lia)
 have f2:=Fo (k:=-e-b) (F:=F) (c:=2*B) (R:=R) (by lia) (by rw[<-hF];lia)
 have mm1:=Zh6 (k:=e-b) (F:=F) (c:=2*B) (by lia) F0
 have mm2:=Zh6 (k:=-e-b) (F:=F) (c:=2*B) (by lia) F0
 have nd1:=Dw (a:=(e-b+F)%(2*B)-F) (c:=2*B) (by lia) (Ri ((e-b+F)%(2*B)-F) (F+1) (2*B))
 have nd2:=Dw (a:=(-e-b+F)%(2*B)-F) (c:=2*B) (by lia) (Ri ((-e-b+F)%(2*B)-F) (F+1) (2*B))
 have l1:=Bo ((e-b+F)%(2*B)-F) (2*B) (Ri ((e-b+F)%(2*B)-F) (F+1) (2*B))
 have l2:=Bo ((-e-b+F)%(2*B)-F) (2*B) (Ri ((-e-b+F)%(2*B)-F) (F+1) (2*B))
 have t2:=fun v9=>Iw (Io (nD n1 m1)) (Io (nD n2 m2)) (Jo (R:Int)) (e:=e) (im:=-e) B0 (by lia) (b:=b) (by lia) (by lia) hR hF.symm (Ap ((e-b+F)%(2*B)-F) (2*B) (Ri ((e-b+F)%(2*B)-F) (F+1) (2*B))) (by lia) v9
 rw[List.nil_append] at t1
 generalize Ap ((e-b+F)%(2*B)-F) (2*B) (Ri ((e-b+F)%(2*B)-F) (F+1) (2*B))=A1 at *
 generalize Ap ((-e-b+F)%(2*B)-F) (2*B) (Ri ((-e-b+F)%(2*B)-F) (F+1) (2*B))=A2 at *
 have pm:=Ua (A1++A2)
 have nd:(A1++A2).Nodup:=List.nodup_append.mpr ⟨nd1,nd2,fun x hx y hy z=>by
  subst z
  obtain⟨_,_,⟨k1,d1⟩⟩:=(mm1 x).mp hx
  obtain⟨_,_,⟨k2,d2⟩⟩:=(mm2 x).mp hy
  exact dj ⟨k2-k1,by rw[Int.mul_sub];lia⟩⟩
 have len:(K6 (A1++A2)).length<=2*R+2:=by rw[pm.length_eq,List.length_append];lia
 have fr:∀t∈K6 (A1++A2),Fr 8 t B:=fun t ht=>by
  have e8:(10:Nat) ^ 8=100000000:=rfl
  have:-F<=t/\t<=F:=by
   rcases List.mem_append.mp (pm.mem_iff.mp ht) with z|z
   ·have:=(mm1 t).mp z;lia
   ·have:=(mm2 t).mp z;lia
  exact⟨B0,by rw[e8];lia,by rw[e8];lia⟩
 refine⟨K6 (A1++A2),⟨Zm3 (Ub _) (pm.nodup_iff.mpr nd),fun t=>?_,len⟩,?_⟩
 ·rw[pm.mem_iff,List.mem_append,mm1,mm2,hB,hF,he,hb]
  constructor
  ·rintro(⟨x,y,z⟩|⟨x,y,z⟩)
   ·exact⟨x,y,.inl z⟩
   ·exact⟨x,y,.inr z⟩
  ·rintro⟨x,y,z|z⟩
   ·exact .inl ⟨x,y,z⟩
   ·exact .inr ⟨x,y,z⟩
 ·have sq:∀r:List (Option S),Zn Zs 0[1]! 1[1]! (Io (nD n1 m1)::Io (nD n2 m2)::r)=.ok (.int B):=fun r=>Zk (Zp rfl rfl (Yu _ _ _)) (Zp rfl rfl (Yu _ _ _)) (by rw[gT (Wl (by lia) (by lia)) (Wl (by lia) (by lia)),hB])
  have sb:∀r:List (Option S),Zn Zs 0[0]! 1[1]! (Io (nD n1 m1)::Io (nD n2 m2)::r)=.ok (.int b):=fun r=>Zk (Zp rfl rfl (Yx _ _)) (Zp rfl rfl (Yu _ _ _)) (by rw[gT (Wl (by lia) (by lia)) (Wl (by lia) (by lia)),hb])
  have se:∀r:List (Option S),Zn Zs 1[0]! 0[1]! (Io (nD n1 m1)::Io (nD n2 m2)::r)=.ok (.int e):=fun r=>Zk (Zp rfl rfl (Yx _ _)) (Zp rfl rfl (Yu _ _ _)) (by rw[gT (Wl (by lia) (by lia)) (Wl (by lia) (by lia)),he])
  have sf:∀r:List (Option S),Zn Zs (Zd 2) (Zd 3) (Io (nD n1 m1)::Io (nD n2 m2)::Jo (R:Int)::Jo B::r)=.ok (.int F):=fun r=>Zk rfl rfl (by rw[gT (Wl (by lia) (by lia)) (Wl (by lia) (by lia)),hF])
  have es:Jx R5 (Zc (Zd 7) Zj) [Io (nD n1 m1),Io (nD n2 m2),Jo (R:Int),Jo B,Jo b,Jo e,Jo F,Io (.lst ((A1++A2).map D.int)),Jo (-e),Jo ((-e-b+F)%(2*B)-F)]=.ok (.lst ((K6 (A1++A2)).map D.int)):=by
   refine Xv (Law.a1 (d:=.lst ((A1++A2).map D.int)) rfl) ?_
   show(match U6 ((A1++A2).map D.int) with|some ns=>if ns.length<64 then M.ok (D.lst ((K6 ns).map D.int)) else .bad|none=>.bad)=_
   rw[Ix]
   dsimp only
   rw[if_pos (by rw[List.length_append];lia)]
  have em:Wx (Yw 0) (Zv Jq (Zc (Zd 0) (Zc (Zd 1) Zj))) (V5 1 [3] [Io (nD n1 m1),Io (nD n2 m2),Jo (R:Int),Jo B,Jo b,Jo e,Jo F,Io (.lst ((A1++A2).map D.int)),Jo (-e),Jo ((-e-b+F)%(2*B)-F)]) ((K6 (A1++A2)).map D.int)=.ok ((K6 (A1++A2)).map fun t=>Qq t B):=
   Zau D.int (fun t=>Qq t B) (K6 (A1++A2)) fun t ht=>⟨_,rfl,Z2 (aC rfl (Law.a1 rfl)) (Ny (fr t ht) (by decide)) rfl⟩
  refine(Zgq _ _ _ _ _).trans (Qb (go (Z1 (sq _)) (go (Z1 (sb _)) (go (Z1 (se _)) (go (Z1 (sf _)) (go (Z1 (d:=.lst []) (B7 rfl (Kn (by show(0:Nat)<=1000000;decide)))) (go (f:=Xr _ (Yw 8) Zoy) ((Q3 (ds:=[.int e,.int (-e)]) (Ms (Uz rfl rfl))).trans ((Q0 rfl t1).trans ((Q0 rfl (t2 _)).trans rfl))) ?_)))))))
  unfold Zcl
  rw[Nw (Uu es) (by rw[List.length_map];lia) em]
  rfl
def Zeh {W H:Nat}(hW:W<=8)(hH:H<=8){ss:List Sd}(hl:ss.length<=400){ps:List Po4}(hp:∀p∈ps,PtOk W H p){q:Nn}(e2:∀x y:Int,look q [.inl x,.inl y]=look [] [.inl x,.inl y]++(ps.filter (Ah x y)).map Po4.D){p s:Po4}(ho:St W H p)(hs:StOk s){most:Nat}(hm:most<=900):
  ∃d,wD (Qi W H ss) q p.D s.D (.int most)=.ok d/\wk W H ss ps (wT p s) most 81 (Gk p.a p.b s.a s.b (wT p s)) (Gk p.c p.d s.c s.d (wT p s)) []=some d/\WS W H (wT p s) 0 (Gk p.a p.b s.a s.b (wT p s)) (Gk p.c p.d s.c s.d (wT p s)) /\
   (s.a≠0->wT p s=p.b*s.a.natAbs*(p.d*m1 s.c))/\(s.c≠0->wT p s=p.d*s.c.natAbs*(p.b*m1 s.a))/\0<wT p s/\∃wd pt tn,d=.tup [.str wd,pt,.lst tn]/\Nz pt/\(∀x∈tn,Nz x)/\tn.length<=most:=by
 have px:=ho.x.fr.pos
 have py:=ho.y.fr.pos
 obtain⟨m0,m1'⟩:=Il s.a
 obtain⟨m2,m3⟩:=Il s.c
 have ew:wT p s=1*p.b*m1 s.a*p.d*m1 s.c:=rfl
 have tp:0<wT p s:=by rw[ew,Int.one_mul];exact Int.mul_pos (Int.mul_pos (Int.mul_pos px m0) py) m2
 have tb:(wT p s).natAbs<=10 ^ 54:=by
  rw[ew,Int.one_mul]
  exact Qf (j:=42) (k:=12) (Qf (j:=27) (k:=15) (Qf (j:=15) (k:=12) ho.bx (W2 hs.x.top)) ho.by') (W2 hs.y.top)
 have eX:s.a≠0->wT p s=p.b*s.a.natAbs*(p.d*m1 s.c):=fun h=>by rw[ew,m1' h];grind
 have eY:s.c≠0->wT p s=p.d*s.c.natAbs*(p.b*m1 s.a):=fun h=>by rw[ew,m3 h];grind
 have dx:s.a≠0->∃k,0<k/\wT p s=p.b*s.a.natAbs*k:=fun h=>⟨p.d*m1 s.c,Int.mul_pos py m2,eX h⟩
 have dy:s.c≠0->∃k,0<k/\wT p s=p.d*s.c.natAbs*k:=fun h=>⟨p.b*m1 s.a,Int.mul_pos px m0,eY h⟩
 have t54:wT p s<=Ja:=by have:(10:Nat) ^ 54=Ja:=rfl;lia
 have lx:(Gk p.a p.b s.a s.b (wT p s)).lap<=Ja:=by
  by_cases h:s.a=0
  ·rw[Fn h];show(0:Int)<=_;exact Int.natCast_nonneg _
  ·rw[Za1 h px (eX h)]
   show s.b*(p.b*(p.d*m1 s.c))<=_
   have:(s.b*(p.b*(p.d*m1 s.c))).natAbs<=10 ^ (12+(15+(15+12))):=Qf hs.x.bot (Qf ho.bx (Qf ho.by' (W2 hs.y.top)))
   have e:(10:Nat) ^ (12+(15+(15+12)))=Ja:=rfl
   lia
 have ly:(Gk p.c p.d s.c s.d (wT p s)).lap<=Ja:=by
  by_cases h:s.c=0
  ·rw[Fn h];show(0:Int)<=_;exact Int.natCast_nonneg _
  ·rw[Za1 h py (eY h)]
   show s.d*(p.d*(p.b*m1 s.a))<=_
   have:(s.d*(p.d*(p.b*m1 s.a))).natAbs<=10 ^ (12+(15+(15+12))):=Qf hs.y.bot (Qf ho.by' (Qf ho.bx (W2 hs.x.top)))
   have e:(10:Nat) ^ (12+(15+(15+12)))=Ja:=rfl
   lia
 have ef:=@Im p s ⟨ho.x.fr.mono (by decide),ho.y.fr.mono (by decide)⟩ hs
 generalize hT:wT p s=T at *
 have tx:=Ir (T:=T) ho.x hW tp hs.x.pos dx
 have ty:=Ir (T:=T) ho.y hH tp hs.y.pos dy
 have h1:(Gk p.a p.b s.a s.b T).h≠0\/(Gk p.c p.d s.c s.d T).h≠0:=by
  have e1:=@Zg7 p.a p.b s.a s.b T
  have e2:=@Zg7 p.c p.d s.c s.d T
  rcases hs.n0 with qq|qq
  ·exact .inl fun z=>qq (by rw[<-e1,z,Int.zero_mul])
  ·exact .inr fun z=>qq (by rw[<-e2,z,Int.zero_mul])
 have wi:WS W H T 0 (Gk p.a p.b s.a s.b T) (Gk p.c p.d s.c s.d T):=⟨tx,ty,h1,Int.le_refl _,tp,.inl rfl⟩
 obtain⟨d,hd⟩:=Ak (ss:=ss) (ps:=ps) (most:=most) 81 40 40 _ _ [] 0 wi (Am ho.x hs.x.pos hs.lx dx) (Am ho.y hs.y.pos hs.ly dy) (by decide)
 refine⟨d,?_,hd,wi,eX,eY,tp,Zef hp t54 81 _ _ [] 0 d wi lx ly (fun _ z=>by cases z) (Nat.zero_le _) hd⟩
 refine Zmm fun a a1 a2=>?_
 unfold fW
 have e0:Zv Yn (Zc (Zd 0) (Zc (Zd 1) Zj)) [Io p.D,Io s.D]=.ok (.int T):=Z2 (aC rfl (Law.a1 rfl)) ef rfl
 have l1:Zc 0[0]! (Zc 1[0]! (Zc (Zd 2) Zj)) [Io p.D,Io s.D,Jo T]=.ok [nD p.a p.b,nD s.a s.b,.int T]:=aC (Zp rfl rfl (Yx _ _)) (aC (Zp rfl rfl (Yx _ _)) (Law.a1 rfl))
 have l2:Zc 0[1]! (Zc 1[1]! (Zc (Zd 2) Zj)) [Io p.D,Io s.D,Jo T]=.ok [nD p.c p.d,nD s.c s.d,.int T]:=aC (Zp rfl rfl (Yu _ _ _)) (aC (Zp rfl rfl (Yu _ _ _)) (Law.a1 rfl))
 rw[e0,M.bind_ok,l1,M.bind_ok,l2,M.bind_ok,Al (ho.x.fr.mono (by decide)) hs.x tb,Al (ho.y.fr.mono (by decide)) hs.y tb]
 exact lw a a1 a2 q p.D s.D (by lia) hp (Zee e2) (by lia) t54 3000 _ _ [] 0 _ wi lx ly (Nat.zero_le _) (Aj 81 3000 _ _ _ _ (by decide) hd)
def V4 (t b:Int):Int×Int:=(t/(Int.gcd t b:Nat),b/(Int.gcd t b:Nat))
def Iz (t b:Int):Qq t b=nD (V4 t b).1 (V4 t b).2:=rfl
def U0 (bx by':Int)(t:Int×Int):Po4:=⟨(V4 t.1 bx).1,(V4 t.1 bx).2,(V4 t.2 by').1,(V4 t.2 by').2⟩
def Zh7 {t b:Int}(hb:0<b):Qq t b=nD 0 1↔t=0:=by
 obtain⟨p,q,e,q0,m,g,_⟩:=Ys (t:=t) hb
 rw[e]
 constructor
 ·intro h
  obtain⟨rfl,rfl⟩:=P4 h
  rw[Int.zero_mul] at m
  lia
 ·intro h
  subst h
  rw[Int.zero_mul] at m
  have hp:p=0:=(Int.mul_eq_zero.mp m).resolve_right (by lia)
  subst hp
  rw[Zg8 q0 g (c:=0) (by lia)]
def Za3:Zf->M O:=(Jf (DL.tB (F6 (Zaa 0 1 0 1) (Qn (Zc (Zd 6) (Zc (Zd 7) Zj))))) (K8 4 (Qn (Zc (Zd 6) (Zc (Zd 7) Zj)))) Q8)
def nz (t:Int×Int):Bool:=!(t.1==0&&t.2==0)
def Zhd {bx by' tx ty:Int}(hbx:0<bx)(hby:0<by'):Zaa 0 1 0 1 (.tup [Qq tx bx,Qq ty by'])=.ok (.bl (nz (tx,ty))):=by
 have k:∀{t b:Int},0<b->(decide ((V4 t b).1=0)&&decide ((V4 t b).2=1))=(t==0):=fun {t b} hb=>by
  have:=@Zh7 t b hb
  rw[Iz] at this
  rw[<-Bool.decide_and,Bool.eq_iff_iff,decide_eq_true_iff,beq_iff_eq,<-this]
  exact⟨fun h=>by rw[h.1,h.2],fun h=>P4 h⟩
 show M.ok (D.bl (!(decide ((V4 tx bx).1=0)&&decide ((V4 tx bx).2=1)&&decide ((V4 ty by').1=0)&&decide ((V4 ty by').2=1))))=_
 rw[k hbx,Bool.and_assoc,k hby]
 rfl
theorem Zei (o0 o1 o2 o3 o5:Option S){bx by' x:Int}(hbx:0<bx)(hby:0<by'):∀(ys:List Int) (acc:List (Int×Int)) (v7:Option S),acc.length+ys.length<=1000->∃w7:Option S,
  Y1 (Yw 7) Za3 (ys.map fun y=>Qq y by') [o0,o1,o2,o3,some (.ow (acc.map fun t=>(U0 bx by' t).D)),o5,Io (Qq x bx),v7]=.ok (.nx [o0,o1,o2,o3,some (.ow ((acc++(ys.map fun y=>(x,y)).filter nz).map fun t=>(U0 bx by' t).D)),o5,Io (Qq x bx),w7])
 |[],acc,v7,_=>⟨v7,by rw[show acc++List.filter nz (([]:List Int).map fun y=>(x,y))=acc from List.append_nil _];rfl⟩
 |y::ys,acc,v7,hl=>by
  rw[List.length_cons] at hl
  have ne:=@Zhd bx by' x y hbx hby
  have c:DL.tB (F6 (Zaa 0 1 0 1) (Qn (Zc (Zd 6) (Zc (Zd 7) Zj)))) [o0,o1,o2,o3,some (.ow (acc.map fun t=>(U0 bx by' t).D)),o5,Io (Qq x bx),Io (Qq y by')]=.ok (nz (x,y)):=by
   refine Qm ?_
   unfold F6
   rw[Uz (a:=Qq x bx) (b:=Qq y by') rfl rfl,M.bind_ok,ne]
  cases q:nz (x,y) with
  |false=>
   rw[q] at c
   obtain⟨w7,e⟩:=Zei o0 o1 o2 o3 o5 hbx hby ys acc (Io (Qq y by')) (by lia)
   refine⟨w7,?_⟩
   rw[List.map_cons,List.map_cons,List.filter_cons_of_neg (by rw[q];decide)]
   exact(Q0 rfl (Z0 c)).trans e
  |true=>
   rw[q] at c
   obtain⟨w7,e⟩:=Zei o0 o1 o2 o3 o5 hbx hby ys (acc++[(x,y)]) (Io (Qq y by')) (by rw[List.length_append,List.length_singleton];lia)
   refine⟨w7,?_⟩
   rw[List.map_cons,List.map_cons,List.filter_cons_of_pos q]
   rw[List.append_assoc] at e
   refine(Q0 (sd2:=[o0,o1,o2,o3,some (.ow ((acc++[(x,y)]).map fun t=>(U0 bx by' t).D)),o5,Io (Qq x bx),Io (Qq y by')]) rfl (Qp c ?_)).trans e
   rw[List.map_append]
   exact Pz rfl (Uz rfl rfl) (by rw[List.length_map];lia)
theorem Zej (o0 o1 o2 o3:Option S){bx by':Int}(hbx:0<bx)(hby:0<by'){ys:List Int}(ly:ys.length<=42):∀(xs:List Int) (acc:List (Int×Int)) (v6 v7:Option S),acc.length+xs.length*ys.length<=1000->∃w6 w7:Option S,
  Y1 (Yw 6) (Xr (Xi (Zd 5)) (Yw 7) Za3) (xs.map fun x=>Qq x bx) [o0,o1,o2,o3,some (.ow (acc.map fun t=>(U0 bx by' t).D)),Io (.lst (ys.map fun y=>Qq y by')),v6,v7]=.ok (.nx [o0,o1,o2,o3,some (.ow ((acc++(xs.flatMap fun x=>ys.map fun y=>(x,y)).filter nz).map fun t=>(U0 bx by' t).D)),Io (.lst (ys.map fun y=>Qq y by')),w6,w7])
 |[],acc,v6,v7,_=>⟨v6,v7,by rw[List.flatMap_nil,List.filter_nil,List.append_nil];rfl⟩
 |x::xs,acc,v6,v7,hl=>by
  rw[List.length_cons,Nat.add_mul,Nat.one_mul] at hl
  obtain⟨a7,e1⟩:=Zei o0 o1 o2 o3 (Io (.lst (ys.map fun y=>Qq y by'))) (x:=x) hbx hby ys acc v7 (by lia)
  have lf:=List.length_filter_le nz (ys.map fun y=>(x,y))
  rw[List.length_map] at lf
  obtain⟨w6,w7,e2⟩:=Zej o0 o1 o2 o3 hbx hby ly xs (acc++(ys.map fun y=>(x,y)).filter nz) (Io (Qq x bx)) a7 (by rw[List.length_append];lia)
  refine⟨w6,w7,?_⟩
  rw[List.append_assoc] at e2
  rw[List.map_cons,List.flatMap_cons,List.filter_append]
  exact(Q0 rfl ((Q3 (Uu rfl)).trans e1)).trans e2
def Zhe {W H:Nat}(hW:W<=8)(hH:H<=8){p q:Po4}(hp:PtOk W H p)(hq:PtOk W H q){RX RY:Nat}(hx:RX<=14)(hy:RY<=14):∃xs ys:List Int,Tops p.a p.b q.a q.b RX xs/\Tops p.c p.d q.c q.d RY ys/\xs.length*ys.length<=900 /\
  Xg [p.D,q.D,.int (RX:Int),.int (RY:Int)]=.ok (.ow (((xs.flatMap fun x=>ys.map fun y=>(x,y)).filter nz).map fun t=>(U0 (p.b*q.b) (p.d*q.d) t).D)):=by
 obtain⟨xs,tx,ex⟩:=Iy hW hp.x hq.x (R:=RX) (by lia)
 obtain⟨ys,ty,ey⟩:=Iy hH hp.y hq.y (R:=RY) (by lia)
 have lx:=tx.few
 have ly:=ty.few
 have lm:xs.length*ys.length<=30*30:=Nat.mul_le_mul (by lia) (by lia)
 refine⟨xs,ys,tx,ty,by lia,?_⟩
 obtain⟨w6,w7,e⟩:=Zej (Io p.D) (Io q.D) (Jo (RX:Int)) (Jo (RY:Int)) (Int.mul_pos hp.x.fr.pos hq.x.fr.pos) (Int.mul_pos hp.y.fr.pos hq.y.fr.pos) (ys:=ys) (by lia) xs [] none none (by simp;lia)
 rw[List.nil_append] at e
 exact(Zmp _ _ _ _ _ _).trans (Qb (go (Jt 4 _) (go (Z1 (Z2 (aC (Zp rfl rfl (Yu _ _ _)) (aC (Zp rfl rfl (Yu _ _ _)) (Law.a1 rfl))) ey rfl)) (go (f:=Xr _ (Yw 6) (Xr (Xi (Zd 5)) (Yw 7) Za3)) ((Q3 (Uu (Z2 (aC (Zp rfl rfl (Yx _ _)) (aC (Zp rfl rfl (Yx _ _)) (Law.a1 rfl))) ex rfl))).trans e) rfl))))
def Zh8 {pt:D}(h:Nz pt)(q:Po4):D.eq pt q.D=true↔pt=q.D:=by
 obtain⟨a,b,c,e,rfl,_⟩:=h
 have:(.tup [nD a b,nD c e]:D)=Po4.D ⟨a,b,c,e⟩:=rfl
 rw[this,Fk]
 constructor
 ·intro h;rw[h]
 ·intro h
  unfold Po4.D at h
  injection h with h
  injection h with h1 h
  injection h with h2 _
  obtain⟨rfl,rfl⟩:=P4 h1
  obtain⟨rfl,rfl⟩:=P4 h2
  rfl
def Dx {w:Str}{pt:D}{tn:List D}(h:Nz pt)(q:Po4):∃b:Bool,Wj [.tup [.str w,pt,.lst tn],q.D]=.ok (.im (.bl b))/\(b=true↔w=Str.ofString "end"/\pt=q.D):=by
 have dp:pt.dep<=60:=Nat.le_trans (Dt h) (by decide)
 refine⟨decide (w=Str.ofString "end")&&D.eq pt q.D,(Zdp _ _ _ _).trans (Qb (Z6 (B8 (Zk (Zp rfl rfl (Yx _ _)) rfl (Jd (by simp[D.dep]))) (Zk (Zp rfl rfl (Yu _ _ _)) rfl (Jd dp))))),?_⟩
 rw[Bool.and_eq_true,decide_eq_true_iff,Zh8 h]
def Zek {bx by':Int}(hx:0<bx)(hx':bx<=1000000)(hy:0<by')(hy':by'<=1000000){t:Int×Int}(h1:-(14*bx)<=t.1/\t.1<=14*bx)(h2:-(14*by')<=t.2/\t.2<=14*by')(h:nz t=true):StOk (U0 bx by' t)/\(U0 bx by' t).b<=1000000/\(U0 bx by' t).d<=1000000:=by
 have e12:(10:Nat) ^ 12=1000000000000:=rfl
 have key:∀{x b:Int},0<b->b<=1000000->-(14*b)<=x/\x<=14*b->Fr 12 (V4 x b).1 (V4 x b).2/\Int.gcd (V4 x b).1 (V4 x b).2=1/\((V4 x b).1.natAbs:Int)<=40*(V4 x b).2/\(V4 x b).2<=1000000/\((V4 x b).1=0↔x=0):=fun {x b} b0 b1 hb=>by
  obtain⟨p,q,e,q0,m,g,a1,a2⟩:=Ys (t:=x) b0
  rw[Iz] at e
  obtain⟨e1,e2⟩:=P4 e
  rw[e1,e2]
  refine⟨⟨q0,by rw[e12];lia,by rw[e12];lia⟩,g,?_,by lia,?_⟩
  ·have h1:(p.natAbs:Int)*b=x.natAbs*q:=by
    have:=congrArg Int.natAbs m
    rw[Int.natAbs_mul,Int.natAbs_mul] at this
    rw[show b=((b.natAbs:Nat):Int) by lia,show q=((q.natAbs:Nat):Int) by lia]
    exact_mod_cast this
   have h2:(x.natAbs:Int)*q<=14*b*q:=Int.mul_le_mul_of_nonneg_right (by lia) (Int.le_of_lt q0)
   rw[<-h1] at h2
   have h3:(p.natAbs:Int)*b<=(14*q)*b:=by rw[show 14*q*b=14*b*q by grind];exact h2
   have:=Int.le_of_mul_le_mul_right h3 b0
   lia
  ·constructor
   ·intro z;rw[z,Int.zero_mul] at m
    rcases Int.mul_eq_zero.mp m.symm with w|w
    ·exact w
    ·lia
   ·intro z;rw[z,Int.zero_mul] at m
    rcases Int.mul_eq_zero.mp m with w|w
    ·exact w
    ·lia
 obtain⟨f1,g1,l1,b1,z1⟩:=key hx hx' h1
 obtain⟨f2,g2,l2,b2,z2⟩:=key hy hy' h2
 refine⟨⟨f1,f2,g1,g2,?_,l1,l2⟩,b1,b2⟩
 by_cases q:t.1=0
 ·refine .inr fun z=>?_
  have:t.2=0:=z2.mp z
  unfold nz at h
  rw[q,this] at h
  cases h
 ·exact .inl fun z=>q (z1.mp z)
section
variable {W H:Nat}{ss:List Sd}{ps:List Po4}{q:Nn}{m:Nat}
def Sf {n1 m1 n2 m2:Int}{R:Nat}{ts:List Int}(h:Tops n1 m1 n2 m2 R ts)(hm:0<m1*m2)(hR:R<=14){t:Int}(ht:t∈ts):-(14*(m1*m2))<=t/\t<=14*(m1*m2):=by
 obtain⟨a,b,_⟩:=(h.mem t).mp ht
 have:=Int.mul_le_mul_of_nonneg_right (show(R:Int)<=14 by lia) (Int.le_of_lt hm)
 lia
end
def Zkt {x y b:Int}(hb:0<b)(hb':b<=1000000)(hx:-(14*b)<=x/\x<=14*b)(hy:-(14*b)<=y/\y<=14*b):Js [Qq x b,Qq y b]=.ok (.im (.bl (decide (x<y))))/\D.eq (Qq x b) (Qq y b)=decide (x=y)/\(Qq x b).dep<=60:=by
 obtain⟨p,q,e1,q0,m1,g1,a1,a2⟩:=Ys (t:=x) hb
 obtain⟨p',q',e2,q0',m2,g2,a3,a4⟩:=Ys (t:=y) hb
 rw[e1,e2]
 have cr:p*q'<p'*q↔x<y:=by
  have k1:b*(p*q')=(q*q')*x:=by rw[show b*(p*q')=p*b*q' by grind,m1];grind
  have k2:b*(p'*q)=(q*q')*y:=by rw[show b*(p'*q)=p'*b*q by grind,m2];grind
  rw[<-Int.mul_lt_mul_left hb,k1,k2,Int.mul_lt_mul_left (Int.mul_pos q0 q0')]
 refine⟨?_,?_,by simp[nD,D.dep,D.deps]⟩
 ·refine(Zdp _ _ _ _).trans (Qb (Z6 (Zk (Zk (Zp rfl rfl (Yx _ _)) (Zp rfl rfl (Yu _ _ _)) (gT (Wl (by lia) (by lia)) (Wl (by lia) (by lia)))) (Zk (Zp rfl rfl (Yx _ _)) (Zp rfl rfl (Yu _ _ _)) (gT (Wl (by lia) (by lia)) (Wl (by lia) (by lia)))) ?_)))
  show M.ok (D.bl (decide (p*q'<p'*q)))=_
  rw[decide_eq_decide.mpr cr]
 ·have eq:(nD p q=nD p' q')↔x=y:=by
   constructor
   ·intro h
    obtain⟨rfl,rfl⟩:=P4 h
    rw[m1] at m2
    exact Int.eq_of_mul_eq_mul_right (by lia) m2
   ·intro h
    rw[<-e1,<-e2,h]
  rw[Bool.eq_iff_iff,decide_eq_true_iff,<-eq]
  simp only[nD,D.eq,D.eqs,Bool.and_true,Bool.and_eq_true,decide_eq_true_iff,beq_iff_eq]
  constructor
  ·rintro⟨rfl,rfl⟩;rfl
  ·intro h;injection h with h;injection h with h1 h;injection h1 with h1;injection h with h2 _;injection h2 with h2;exact⟨h1,h2⟩
def Zku (c:Int):∃W H m:Nat,1<=W/\W<=3/\1<=H/\H<=3/\m<=3/\(m+1)*W<=14/\(m+1)*H<=14/\Wk [.int c]=.ok (.im (.tup [.int (W:Int),.int (H:Int),.int (m:Int)])):=by
 have k0:=Int.emod_nonneg c (show(10:Int)≠0 by decide)
 have k1:=Int.emod_lt_of_pos c (show(0:Int)<10 by decide)
 have run:∀d,Jg (.lst [.tup [.int 1,.int 1,.int 2],.tup [.int 2,.int 1,.int 1],.tup [.int 1,.int 2,.int 1],.tup [.int 2,.int 2,.int 1],.tup [.int 1,.int 1,.int 3],.tup [.int 2,.int 1,.int 2],.tup [.int 3,.int 1,.int 1],.tup [.int 3,.int 2,.int 0],.tup [.int 3,.int 3,.int 0],.tup [.int 1,.int 3,.int 1]]) (.int (c%10))=.ok d->Wk [.int c]=.ok (.im d):=fun d h=>
  (Zmo _ _ _).trans (Qb (go (Z1 rfl) (go (Z1 (Zk rfl rfl rfl)) (Z6 (Zk rfl (Zk rfl rfl (gM (by decide))) h)))))
 generalize c%10=k at *
 have:k=0\/k=1\/k=2\/k=3\/k=4\/k=5\/k=6\/k=7\/k=8\/k=9:=by lia
 rcases this with rfl|rfl|rfl|rfl|rfl|rfl|rfl|rfl|rfl|rfl
 ·exact⟨1,1,2,by decide,by decide,by decide,by decide,by decide,by decide,by decide,run _ rfl⟩
 ·exact⟨2,1,1,by decide,by decide,by decide,by decide,by decide,by decide,by decide,run _ rfl⟩
 ·exact⟨1,2,1,by decide,by decide,by decide,by decide,by decide,by decide,by decide,run _ rfl⟩
 ·exact⟨2,2,1,by decide,by decide,by decide,by decide,by decide,by decide,by decide,run _ rfl⟩
 ·exact⟨1,1,3,by decide,by decide,by decide,by decide,by decide,by decide,by decide,run _ rfl⟩
 ·exact⟨2,1,2,by decide,by decide,by decide,by decide,by decide,by decide,by decide,run _ rfl⟩
 ·exact⟨3,1,1,by decide,by decide,by decide,by decide,by decide,by decide,by decide,run _ rfl⟩
 ·exact⟨3,2,0,by decide,by decide,by decide,by decide,by decide,by decide,by decide,run _ rfl⟩
 ·exact⟨3,3,0,by decide,by decide,by decide,by decide,by decide,by decide,by decide,run _ rfl⟩
 ·exact⟨1,3,1,by decide,by decide,by decide,by decide,by decide,by decide,by decide,run _ rfl⟩
def Zm4 {f:Zf->M D}{i j k:Nat}{sd:Zf}{a b c:D}(h:f sd=.ok (.tup [a,b,c])):Ca f (Gy 3 (Yk (Yw i) (Yk (Yw j) (Yk (Yw k) P9)))) sd=.ok (.nx (((sd.set i (Io a)).set j (Io b)).set k (Io c))):=by
 unfold Ca
 rw[h]
 rfl
theorem I0 (t:Int):∀l:List Int,l.Pairwise (· < ·)->t ∉ l->(W8 ((l.filter fun x=>decide (x<t)).length) t l).Pairwise (· < ·)/\(W8 ((l.filter fun x=>decide (x<t)).length) t l).Perm (t::l)
 |[],_,_=>⟨List.pairwise_singleton _ _,List.Perm.refl _⟩
 |x::xs,h,hn=>by
  obtain⟨h1,h2⟩:=List.pairwise_cons.mp h
  by_cases q:x<t
  ·obtain⟨i1,i2⟩:=I0 t xs h2 fun z=>hn (.tail _ z)
   rw[List.filter_cons_of_pos (by exact decide_eq_true q),List.length_cons]
   generalize (xs.filter fun x=>decide (x<t)).length=n at *
   have e:W8 (n+1) t (x::xs)=x::W8 n t xs:=rfl
   rw[e]
   refine⟨List.pairwise_cons.mpr ⟨fun y hy=>?_,i1⟩,(i2.cons x).trans (List.Perm.swap t x xs)⟩
   rcases List.mem_cons.mp (i2.mem_iff.mp hy) with rfl|z
   ·exact q
   ·exact h1 y z
  ·have ne:x≠t:=fun z=>hn (z▸.head _)
   have c0:(x::xs).filter (fun y=>decide (y<t))=[]:=by
    refine List.filter_eq_nil_iff.mpr fun y hy z=>?_
    have z:=of_decide_eq_true z
    rcases List.mem_cons.mp hy with rfl|hy
    ·exact q z
    ·have:=h1 y hy
     lia
   rw[c0]
   refine⟨List.pairwise_cons.mpr ⟨fun y hy=>?_,h⟩,List.Perm.refl _⟩
   rcases List.mem_cons.mp hy with rfl|hy
   ·lia
   ·have:=h1 y hy
    lia
theorem Zel:∀{A B:List Int},A.Pairwise (· < ·)->B.Pairwise (· < ·)->(∀x,x∈A↔x∈B)->A=B
 |[],[],_,_,_=>rfl
 |[],b::B,_,_,h=>by have:=(h b).mpr (.head _);cases this
 |a::A,[],_,_,h=>by have:=(h a).mp (.head _);cases this
 |a::A,b::B,hA,hB,h=>by
  obtain⟨a1,a2⟩:=List.pairwise_cons.mp hA
  obtain⟨b1,b2⟩:=List.pairwise_cons.mp hB
  have e:a=b:=by
   rcases List.mem_cons.mp ((h a).mp (.head _)) with z|z
   ·exact z
   ·rcases List.mem_cons.mp ((h b).mpr (.head _)) with w|w
    ·exact w.symm
    ·have:=a1 b w
     have:=b1 a z
     lia
  subst e
  refine congrArg _ (Zel a2 b2 fun x=>?_)
  constructor
  ·intro z
   rcases List.mem_cons.mp ((h x).mp (.tail _ z)) with w|w
   ·have:=a1 x z;lia
   ·exact w
  ·intro z
   rcases List.mem_cons.mp ((h x).mpr (.tail _ z)) with w|w
   ·have:=b1 x z;lia
   ·exact w
def Zh9 {a b c d g:Int}(ha:a.natAbs<=10 ^ 12)(hb:0<b)(hb':b.natAbs<=10 ^ 12)(hc:c.natAbs<=10 ^ 12)(hd:0<d)(hd':d.natAbs<=10 ^ 12)(hg:g=1\/g = -1):Up [nD a b,nD c d,.int g]=.ok (.im (Qq (a*d+g*c*b) (b*d))):=by
 have sa:=Q7 ha (show 12<=900 by decide)
 have sb:=Q7 hb' (show 12<=900 by decide)
 have sc:=Q7 hc (show 12<=900 by decide)
 have sd:=Q7 hd' (show 12<=900 by decide)
 have sg:sm g=true:=by rcases hg with q|q<;>rw[q]<;>exact Wl (by decide) (by decide)
 have gc:(g*c).natAbs<=10 ^ 12:=by rcases hg with q|q<;>rw[q]<;>lia
 have sgc:=Q7 gc (show 12<=900 by decide)
 have h1:(a*d).natAbs<=10 ^ (12+12):=Qf ha hd'
 have h2:(g*c*b).natAbs<=10 ^ (12+12):=Qf gc hb'
 have h3:(b*d).natAbs<=10 ^ (12+12):=Qf hb' hd'
 have e24:(10:Nat) ^ (12+12)=1000000000000000000000000:=rfl
 have e30:(10:Nat) ^ 30=1000000000000000000000000000000:=rfl
 have fl:=Zhx (k:=30) (t:=a*d+g*c*b) (b:=b*d) ⟨Int.mul_pos hb hd,by rw[e30];rw[e24] at h1 h2;lia,by rw[e30];rw[e24] at h3;lia⟩ (by decide)
 exact(Zgq _ _ _ _ _).trans (Qb (Z6 (Z2 (aC (Zk (Zk (Zp rfl rfl (Yx _ _)) (Zp rfl rfl (Yu _ _ _)) (gT sa sd)) (Zk (Zk rfl (Zp rfl rfl (Yx _ _)) (gT sg sc)) (Zp rfl rfl (Yu _ _ _)) (gT sgc sb)) rfl) (Law.a1 (Zk (Zp rfl rfl (Yu _ _ _)) (Zp rfl rfl (Yu _ _ _)) (gT sb sd)))) fl rfl)))
noncomputable def Zni:Zf->M O:=(Zu (Z8 6 (Zv Up (Zc (Qn (Zc (Zn Zs ↑2 (Zd 5)) (Zc ↑1 Zj))) (Zc (Zd 1) (Zc (Zd 4) Zj)))))
   (Zu (Z8 7 (Zv Up (Zc (Zd 6) (Zc (Zd 0) (Zc (F6 S0 ↑1) Zj)))))
   (Jf (DL.tB (Zn Zi9 (Jx Vt (Zc 7[0]! Zj)) (Zn Zs (Zd 2) 7[1]!))) (K8 3 (Zd 7)) Q8)))
def P5 (n1 m1 n2 m2 g k:Int):Int:=2*k*(m1*m2)+g*(n2*m1)-n1*m2
def Zkv {t b R:Int}{p q:Int}(hb:0<b)(hq:0<q)(m:p*b=t*q):(p.natAbs:Int)<=R*q↔(t.natAbs:Int)<=R*b:=by
 have h1:(p.natAbs:Int)*b=t.natAbs*q:=by
  have:=congrArg Int.natAbs m
  rw[Int.natAbs_mul,Int.natAbs_mul] at this
  rw[show b=((b.natAbs:Nat):Int) by lia,show q=((q.natAbs:Nat):Int) by lia]
  exact_mod_cast this
 rw[<-Int.mul_le_mul_right hb,h1,show R*q*b=R*b*q by grind,Int.mul_le_mul_right hq]
section
variable {n1 m1 n2 m2:Int}{R:Nat}
def Zhf {z:Nat}(z8:z<=8)(h1:PIn z n1 m1)(h2:PIn z n2 m2)(hR:R<=14){g k:Int}(hg:g=1\/g = -1)(hk:k.natAbs<=100)(L:List Int)(hl:L.length<=900)(v6 v7 v8 v9:Option S):∃w6 w7:Option S,
  Zni [Io (nD n1 m1),Io (nD n2 m2),Jo (R:Int),some (.ow (L.map fun t=>Qq t (m1*m2))),Jo g,Jo k,v6,v7,v8,v9]=.ok (.nx [Io (nD n1 m1),Io (nD n2 m2),Jo (R:Int),some (.ow ((L++([P5 n1 m1 n2 m2 g k].filter fun t=>decide ((t.natAbs:Int)<=(R:Int)*(m1*m2)))).map fun t=>Qq t (m1*m2))),Jo g,Jo k,w6,w7,v8,v9]):=by
 obtain⟨a1,a2,a3,a4⟩:=Jv h1 z8
 obtain⟨c1,c2,c3,c4⟩:=Jv h2 z8
 have e12:(10:Nat) ^ 12=1000000000000:=rfl
 have B0:0<m1*m2:=Int.mul_pos a1 c1
 have B1:m1*m2<=1000*1000:=Int.mul_le_mul a2 c2 (by lia) (by decide)
 have km:(2*k*m2).natAbs<=200*1000:=by rw[Int.natAbs_mul];exact Nat.mul_le_mul (by lia) (by lia)
 have gn:(g*n2*1).natAbs<=8000:=by rcases hg with q|q<;>rw[q]<;>lia
 have s1:=Zh9 (a:=2*k) (b:=1) (c:=n2) (d:=m2) (g:=g) (by rw[e12];lia) (by decide) (by decide) (by rw[e12];lia) c1 (by rw[e12];lia) hg
 obtain⟨a,b,ea,b0,mm,gg,la,lb⟩:=Ys (t:=2*k*m2+g*n2*1) (b:=1*m2) (by lia)
 rw[ea] at s1
 have s2:=Zh9 (a:=a) (b:=b) (c:=n1) (d:=m1) (g:=-1) (by rw[e12];lia) b0 (by rw[e12];lia) (by rw[e12];lia) a1 (by rw[e12];lia) (.inr rfl)
 have et:Qq (a*m1 + -1*n1*b) (b*m1)=Qq (P5 n1 m1 n2 m2 g k) (m1*m2):=by
  refine Mt (Int.mul_pos b0 a1) B0 ?_
  unfold P5
  have:a*m2=(2*k*m2+g*n2)*b:=by rw[Int.one_mul,Int.mul_one] at mm;exact mm
  have:(a*m1 + -1*n1*b)*(m1*m2)=(a*m2)*(m1*m1)-n1*b*(m1*m2):=by grind
  rw[this,‹a*m2=_›]
  grind
 rw[et] at s2
 obtain⟨p,q,ep,q0,m',g',lp,lq⟩:=Ys (t:=P5 n1 m1 n2 m2 g k) B0
 have tb:(P5 n1 m1 n2 m2 g k).natAbs<=200*1000000+8000000+8000000:=by
  unfold P5
  have q1:(2*k*(m1*m2)).natAbs<=200*1000000:=by rw[Int.natAbs_mul];exact Nat.mul_le_mul (by lia) (by lia)
  have q2:(n2*m1).natAbs<=8000*1000:=by rw[Int.natAbs_mul];exact Nat.mul_le_mul (by lia) (by lia)
  have q3:(n1*m2).natAbs<=8000*1000:=by rw[Int.natAbs_mul];exact Nat.mul_le_mul (by lia) (by lia)
  rcases hg with q|q<;>rw[q]<;>lia
 have iff:=Zkv (R:=(R:Int)) B0 q0 m'
 have k2:Zs (.int 2) (.int k)=.ok (.int (2*k)):=gT (Wl (by decide) (by decide)) (Wl (by lia) (by lia))
 have tt:DL.tB (Zn Zi9 (Jx Vt (Zc 7[0]! Zj)) (Zn Zs (Zd 2) 7[1]!)) [Io (nD n1 m1),Io (nD n2 m2),Jo (R:Int),some (.ow (L.map fun t=>Qq t (m1*m2))),Jo g,Jo k,Io (nD a b),Io (nD p q),v8,v9]=.ok (decide (((P5 n1 m1 n2 m2 g k).natAbs:Int)<=(R:Int)*(m1*m2))):=by
  refine Qm (Zk (x:=.int (p.natAbs:Int)) (y:=.int ((R:Int)*q)) (Xv (Law.a1 (Zp rfl rfl (Yx _ _))) (Gh p)) (Zk rfl (Zp rfl rfl (Yu _ _ _)) (gT (Wl (by lia) (by lia)) (Wl (by lia) (by lia)))) ?_)
  show M.ok (D.bl (decide ((p.natAbs:Int)<=(R:Int)*q)))=_
  rw[decide_eq_decide.mpr iff]
 have pre:∀{r:M O},(Jf (DL.tB (Zn Zi9 (Jx Vt (Zc 7[0]! Zj)) (Zn Zs (Zd 2) 7[1]!))) (K8 3 (Zd 7)) Q8) [Io (nD n1 m1),Io (nD n2 m2),Jo (R:Int),some (.ow (L.map fun t=>Qq t (m1*m2))),Jo g,Jo k,Io (nD a b),Io (nD p q),v8,v9]=r->Zni [Io (nD n1 m1),Io (nD n2 m2),Jo (R:Int),some (.ow (L.map fun t=>Qq t (m1*m2))),Jo g,Jo k,v6,v7,v8,v9]=r:=fun {r} h=>by
  refine go (Z1 (Z2 (aC (Uz (Zk rfl rfl k2) rfl) (aC rfl (Law.a1 rfl))) s1 rfl)) (go (Z1 (Z2 (aC rfl (aC rfl (Law.a1 (d:=.int (-1)) rfl))) s2 rfl)) ?_)
  rw[ep]
  exact h
 refine⟨Io (nD a b),Io (nD p q),?_⟩
 cases qq:decide (((P5 n1 m1 n2 m2 g k).natAbs:Int)<=(R:Int)*(m1*m2)) with
 |true=>
  rw[qq] at tt
  rw[List.filter_cons_of_pos (p:=fun t:Int=>decide ((t.natAbs:Int)<=(R:Int)*(m1*m2))) qq,List.filter_nil,List.map_append,List.map_cons,List.map_nil,ep]
  exact pre (Qp tt (Pz rfl rfl (by rw[List.length_map];lia)))
 |false=>
  rw[qq] at tt
  rw[List.filter_cons_of_neg (p:=fun t:Int=>decide ((t.natAbs:Int)<=(R:Int)*(m1*m2))) (by rw[qq];decide),List.filter_nil,List.append_nil]
  exact pre (Z0 tt)
theorem Zem {z:Nat}(z8:z<=8)(h1:PIn z n1 m1)(h2:PIn z n2 m2)(hR:R<=14){g:Int}(hg:g=1\/g = -1)(v8 v9:Option S):∀(ks:List Int) (L:List Int) (v5 v6 v7:Option S),(∀k∈ks,k.natAbs<=100)->L.length+ks.length<=900->∃w5 w6 w7:Option S,
  Y1 (Yw 5) Zni (ks.map D.int) [Io (nD n1 m1),Io (nD n2 m2),Jo (R:Int),some (.ow (L.map fun t=>Qq t (m1*m2))),Jo g,v5,v6,v7,v8,v9]=.ok (.nx [Io (nD n1 m1),Io (nD n2 m2),Jo (R:Int),some (.ow ((L++((ks.map (P5 n1 m1 n2 m2 g)).filter fun t=>decide ((t.natAbs:Int)<=(R:Int)*(m1*m2)))).map fun t=>Qq t (m1*m2))),Jo g,w5,w6,w7,v8,v9])
 |[],L,v5,v6,v7,_,_=>⟨v5,v6,v7,by rw[List.map_nil,List.map_nil,List.filter_nil,List.append_nil];rfl⟩
 |k::ks,L,v5,v6,v7,hk,hl=>by
  rw[List.length_cons] at hl
  obtain⟨a6,a7,e1⟩:=Zhf z8 h1 h2 hR hg (hk k (.head _)) L (by lia) v6 v7 v8 v9
  have lf:=List.length_filter_le (fun t:Int=>decide ((t.natAbs:Int)<=(R:Int)*(m1*m2))) [P5 n1 m1 n2 m2 g k]
  rw[List.length_singleton] at lf
  obtain⟨w5,w6,w7,e2⟩:=Zem z8 h1 h2 hR hg v8 v9 ks (L++([P5 n1 m1 n2 m2 g k].filter fun t=>decide ((t.natAbs:Int)<=(R:Int)*(m1*m2)))) (Jo k) a6 a7 (fun x hx=>hk x (.tail _ hx)) (by rw[List.length_append];lia)
  refine⟨w5,w6,w7,?_⟩
  rw[List.append_assoc,<-List.filter_append] at e2
  rw[List.map_cons,List.map_cons]
  exact(Q0 rfl e1).trans e2
noncomputable def Zoz:Zf->M O:=(Zu (Z8 9 (Sx 8 (Jx Vz (Zc (U7 (Vk (Xi (Zd 8)) 1 [7] (Yw 0) (DL.tB (Zv Js (Zc (Zd 0) (Zc (Zd 1) Zj)))) (Zd 0))) Zj))))
   (Zde 8 (Zd 9) (Zd 7)))
theorem I8 (o0 o1 o2 o3 o4 o5 o6:Option S){B:Int}(B0:0<B)(B1:B<=1000000):∀(L S':List Int) (v7 v9:Option S),L.Nodup->(∀t∈L,-(14*B)<=t/\t<=14*B)->(∀t∈S',-(14*B)<=t/\t<=14*B)->S'.Pairwise (· < ·)->(∀t∈L,t ∉ S')->L.length+S'.length<=900->∃(S2:List Int) (w7 w9:Option S),S2.Pairwise (· < ·)/\(∀t,t∈S2↔t∈L\/t∈S') /\
  Y1 (Yw 7) Zoz (L.map fun t=>Qq t B) [o0,o1,o2,o3,o4,o5,o6,v7,some (.ow (S'.map fun t=>Qq t B)),v9]=.ok (.nx [o0,o1,o2,o3,o4,o5,o6,w7,some (.ow (S2.map fun t=>Qq t B)),w9])
 |[],S',v7,v9,_,_,_,hs,_,_=>⟨S',v7,v9,hs,fun t=>⟨.inr,fun z=>by rcases z with z|z;cases z;exact z⟩,rfl⟩
 |t::L,S',v7,v9,nd,bL,bS,hs,dj,hl=>by
  rw[List.length_cons] at hl
  obtain⟨nt,nd⟩:=List.nodup_cons.mp nd
  obtain⟨i1,i2⟩:=I0 t S' hs (dj t (.head _))
  have bt:=bL t (.head _)
  have ef:Pp (Yw 0) (DL.tB (Zv Js (Zc (Zd 0) (Zc (Zd 1) Zj)))) (Zd 0) (V5 1 [7] [o0,o1,o2,o3,o4,o5,o6,Io (Qq t B),Io (.lst (S'.map fun t=>Qq t B)),v9]) (S'.map fun t=>Qq t B)=.ok ((S'.filter fun x=>decide (x<t)).map fun t=>Qq t B):=
   Zm1 (fun t=>Qq t B) (fun t=>Qq t B) (fun x=>decide (x<t)) S' fun x hx=>⟨_,rfl,Qm (Z2 (aC rfl (Law.a1 rfl)) (Zkt B0 B1 (bS x hx) bt).1 rfl),rfl⟩
  have lf:=List.length_filter_le (fun x:Int=>decide (x<t)) S'
  have e9:Sx 8 (Jx Vz (Zc (U7 (Vk (Xi (Zd 8)) 1 [7] (Yw 0) (DL.tB (Zv Js (Zc (Zd 0) (Zc (Zd 1) Zj)))) (Zd 0))) Zj)) [o0,o1,o2,o3,o4,o5,o6,Io (Qq t B),some (.ow (S'.map fun t=>Qq t B)),v9]=.ok (.int (((S'.filter fun x=>decide (x<t)).length:Nat):Int)):=by
   have:Jx Vz (Zc (U7 (Vk (Xi (Zd 8)) 1 [7] (Yw 0) (DL.tB (Zv Js (Zc (Zd 0) (Zc (Zd 1) Zj)))) (Zd 0))) Zj) [o0,o1,o2,o3,o4,o5,o6,Io (Qq t B),Io (.lst (S'.map fun t=>Qq t B)),v9]=.ok (.int (((S'.filter fun x=>decide (x<t)).length:Nat):Int)):=by
    refine Xv (Law.a1 (d:=.lst ((S'.filter fun x=>decide (x<t)).map fun t=>Qq t B)) (Tw ?_)) (by rw[Ab,List.length_map])
    unfold Vk
    rw[Uu (ds:=S'.map fun t=>Qq t B) rfl,M.bind_ok,Kn (by rw[List.length_map];lia),if_pos rfl]
    exact ef
   show(match Jx Vz (Zc (U7 (Vk (Xi (Zd 8)) 1 [7] (Yw 0) (DL.tB (Zv Js (Zc (Zd 0) (Zc (Zd 1) Zj)))) (Zd 0))) Zj) [o0,o1,o2,o3,o4,o5,o6,Io (Qq t B),Io (.lst (S'.map fun t=>Qq t B)),v9] with | .ok d=>if Zch d=true then M.ok d else .bad|_=>.bad)=_
   rw[this]
   rfl
  have ei:Zde 8 (Zd 9) (Zd 7) [o0,o1,o2,o3,o4,o5,o6,Io (Qq t B),some (.ow (S'.map fun t=>Qq t B)),Jo (((S'.filter fun x=>decide (x<t)).length:Nat):Int)]=.ok (.nx [o0,o1,o2,o3,o4,o5,o6,Io (Qq t B),some (.ow ((W8 (S'.filter fun x=>decide (x<t)).length t S').map fun t=>Qq t B)),Jo (((S'.filter fun x=>decide (x<t)).length:Nat):Int)]):=by
   show(if 0<=(((S'.filter fun x=>decide (x<t)).length:Nat):Int)/\(((S'.filter fun x=>decide (x<t)).length:Nat):Int)<=((S'.map fun t=>Qq t B).length:Int)/\(S'.map fun t=>Qq t B).length<=1000000 then M.ok (O.nx _) else .bad)=_
   rw[if_pos ⟨by lia,by rw[List.length_map];lia,by rw[List.length_map];lia⟩]
   unfold W8
   rw[List.map_append,List.map_cons,List.map_take,List.map_drop]
   rfl
  obtain⟨S2,w7,w9,j1,j2,j3⟩:=I8 o0 o1 o2 o3 o4 o5 o6 B0 B1 L (W8 (S'.filter fun x=>decide (x<t)).length t S') (Io (Qq t B)) (Jo (((S'.filter fun x=>decide (x<t)).length:Nat):Int)) nd (fun x hx=>bL x (.tail _ hx)) (fun x hx=>by
   rcases List.mem_cons.mp (i2.mem_iff.mp hx) with rfl|z
   ·exact bt
   ·exact bS x z) i1 (fun x hx z=>by
   rcases List.mem_cons.mp (i2.mem_iff.mp z) with rfl|w
   ·exact nt hx
   ·exact dj x (.tail _ hx) w) (by rw[i2.length_eq,List.length_cons];lia)
  refine⟨S2,w7,w9,j1,fun x=>?_,?_⟩
  ·rw[j2,i2.mem_iff,List.mem_cons,List.mem_cons]
   constructor
   ·rintro(z|z|z)
    ·exact .inl (.inr z)
    ·exact .inl (.inl z)
    ·exact .inr z
   ·rintro((z|z)|z)
    ·exact .inr (.inl z)
    ·exact .inl z
    ·exact .inr (.inr z)
  ·rw[List.map_cons]
   exact(Q0 rfl (go (Z1 e9) ei)).trans j3
def Za4 (i:Int)(n:Nat):Uc i n=((List.range n).map fun(j:Nat)=>i+(j:Int)).map D.int:=by
 unfold Uc
 rw[List.map_map]
 rfl
def Dy {z:Nat}(z3:z<=3)(h1:PIn z n1 m1)(h2:PIn z n2 m2)(hR:R<=14){ts:List Int}(T:Tops n1 m1 n2 m2 R ts):Kb [nD n1 m1,nD n2 m2,.int (R:Int)]=.ok (.ow (ts.map fun t=>Qq t (m1*m2))):=by
 have z8:z<=8:=by lia
 obtain⟨a1,a2,a3,a4⟩:=Jv h1 z8
 obtain⟨c1,c2,c3,c4⟩:=Jv h2 z8
 have B0:0<m1*m2:=Int.mul_pos a1 c1
 have B1:m1*m2<=1000*1000:=Int.mul_le_mul a2 c2 (by lia) (by decide)
 have e0:0<n2*m1:=Int.mul_pos c3 a1
 have e1:n2*m1<=3*(m1*m2):=by
  have:=Int.mul_le_mul_of_nonneg_right (Int.le_of_lt h2.p1) (Int.le_of_lt a1)
  have k:=Int.mul_le_mul_of_nonneg_right (show(z:Int)<=3 by lia) (Int.le_of_lt B0)
  rw[show(z:Int)*m2*m1=z*(m1*m2) by grind] at this
  lia
 have b0:0<n1*m2:=Int.mul_pos a3 c1
 have b1:n1*m2<=3*(m1*m2):=by
  have:=Int.mul_le_mul_of_nonneg_right (Int.le_of_lt h1.p1) (Int.le_of_lt c1)
  have k:=Int.mul_le_mul_of_nonneg_right (show(z:Int)<=3 by lia) (Int.le_of_lt B0)
  rw[show(z:Int)*m1*m2=z*(m1*m2) by grind] at this
  lia
 have dj:¬2*(m1*m2) ∣ 2*(n2*m1):=fun⟨k,hk⟩=>h2.nw k (by
  have:m1*(k*m2)=m1*n2:=by grind
  exact Int.eq_of_mul_eq_mul_left (by lia) this)
 generalize hks:((List.range ((R:Int)+10-(0-(R:Int)-9)).toNat).map fun(j:Nat)=>(0-(R:Int)-9)+(j:Int))=ks
 have kmem:∀k:Int,k∈ks↔0-(R:Int)-9<=k/\k<(R:Int)+10:=fun k=>by
  rw[<-hks,List.mem_map]
  constructor
  ·rintro⟨j,hj,rfl⟩
   have:=List.mem_range.mp hj
   lia
  ·intro h
   exact⟨(k-(0-(R:Int)-9)).toNat,List.mem_range.mpr (by lia),by lia⟩
 have knd:ks.Nodup:=by
  rw[<-hks]
  exact List.pairwise_map.mpr (List.nodup_range.imp fun {i j} h z=>h (by lia))
 have klen:ks.length<=60:=by rw[<-hks,List.length_map,List.length_range];lia
 have kb:∀k∈ks,k.natAbs<=100:=fun k hk=>by have:=(kmem k).mp hk;lia
 generalize hP:(fun t:Int=>decide ((t.natAbs:Int)<=(R:Int)*(m1*m2)))=P
 have l1:=List.length_filter_le P (ks.map (P5 n1 m1 n2 m2 1))
 have l2:=List.length_filter_le P (ks.map (P5 n1 m1 n2 m2 (-1)))
 rw[List.length_map] at l1 l2
 obtain⟨x5,x6,x7,r1⟩:=Zem z8 h1 h2 hR (.inl rfl) none none ks [] none none none kb (by simp;lia)
 rw[hP,List.nil_append] at r1
 obtain⟨y5,y6,y7,r2⟩:=Zem z8 h1 h2 hR (.inr rfl) none none ks ((ks.map (P5 n1 m1 n2 m2 1)).filter P) x5 x6 x7 kb (by lia)
 rw[hP] at r2
 generalize hA:(ks.map (P5 n1 m1 n2 m2 1)).filter P=A1 at *
 generalize hB:(ks.map (P5 n1 m1 n2 m2 (-1))).filter P=A2 at *
 have RB0:0<=(R:Int)*(m1*m2):=Int.mul_nonneg (by lia) (by lia)
 have RB1:(R:Int)*(m1*m2)<=14*(m1*m2):=Int.mul_le_mul_of_nonneg_right (by lia) (Int.le_of_lt B0)
 have mem1:∀(g t:Int),t∈(ks.map (P5 n1 m1 n2 m2 g)).filter P↔(∃k∈ks,P5 n1 m1 n2 m2 g k=t)/\(t.natAbs:Int)<=(R:Int)*(m1*m2):=fun g t=>by
  rw[List.mem_filter,List.mem_map,<-hP,decide_eq_true_iff]
 have mm:∀t,t∈A1++A2↔t∈ts:=fun t=>by
  rw[List.mem_append,<-hA,<-hB,mem1,mem1,T.mem]
  constructor
  ·rintro(⟨⟨k,hk,rfl⟩,hb⟩|⟨⟨k,hk,rfl⟩,hb⟩)
   ·exact⟨by lia,by lia,.inl ⟨k,by unfold P5;grind⟩⟩
   ·exact⟨by lia,by lia,.inr ⟨k,by unfold P5;grind⟩⟩
  ·have kk:∀{k g:Int},(g=1\/g = -1)->((2*k*(m1*m2)+g*(n2*m1)-n1*m2).natAbs:Int)<=(R:Int)*(m1*m2)->k∈ks:=fun {k g} hg hb=>by
    rw[kmem]
    have u1:2*k*(m1*m2)<=(R+6)*(m1*m2):=by rw[Int.add_mul];rcases hg with q|q<;>rw[q] at hb<;>lia
    have u2:-(R+6)*(m1*m2)<=2*k*(m1*m2):=by rw[Int.neg_mul,Int.add_mul];rcases hg with q|q<;>rw[q] at hb<;>lia
    have:=Int.le_of_mul_le_mul_right u1 B0
    have:=Int.le_of_mul_le_mul_right u2 B0
    lia
   rintro⟨x,y,⟨k,hk⟩|⟨k,hk⟩⟩
   ·have et:P5 n1 m1 n2 m2 1 k=t:=by unfold P5;grind
    have hb:(t.natAbs:Int)<=(R:Int)*(m1*m2):=by lia
    exact .inl ⟨⟨k,kk (.inl rfl) (by rw[<-et] at hb;exact hb),et⟩,hb⟩
   ·have et:P5 n1 m1 n2 m2 (-1) k=t:=by unfold P5;grind
    have hb:(t.natAbs:Int)<=(R:Int)*(m1*m2):=by lia
    exact .inr ⟨⟨k,kk (.inr rfl) (by rw[<-et] at hb;exact hb),et⟩,hb⟩
 have inj:∀(g:Int),((ks.map (P5 n1 m1 n2 m2 g)).filter P).Nodup:=fun g=>List.Pairwise.filter _ (List.pairwise_map.mpr (knd.imp fun {i j} h q=>h (by
  unfold P5 at q
  have:2*i*(m1*m2)=2*j*(m1*m2):=by lia
  have:=Int.eq_of_mul_eq_mul_right (by lia) this
  lia)))
 have nd:(A1++A2).Nodup:=List.nodup_append.mpr ⟨hA▸inj 1,hB▸inj (-1),fun x hx y hy q=>by
  subst q
  rw[<-hA,mem1] at hx
  rw[<-hB,mem1] at hy
  obtain⟨⟨k1,_,q1⟩,_⟩:=hx
  obtain⟨⟨k2,_,q2⟩,_⟩:=hy
  exact dj ⟨k2-k1,by unfold P5 at q1 q2;grind⟩⟩
 have bd:∀t∈A1++A2,-(14*(m1*m2))<=t/\t<=14*(m1*m2):=fun t ht=>by
  obtain⟨x,y,_⟩:=(T.mem t).mp ((mm t).mp ht)
  lia
 obtain⟨S2,w7,w9,s1,s2,s3⟩:=I8 (Io (nD n1 m1)) (Io (nD n2 m2)) (Jo (R:Int)) (Io (.lst ((A1++A2).map fun t=>Qq t (m1*m2)))) (Jo (-1)) y5 y6 B0 (by lia) (A1++A2) [] y7 none nd bd (fun t ht=>by cases ht) List.Pairwise.nil (fun _ _ z=>by cases z) (by rw[List.length_append];simp;lia)
 have eS:S2=ts:=Zel s1 T.lt fun x=>by
  rw[s2,<-mm]
  constructor
  ·rintro(z|z)
   ·exact z
   ·cases z
  ·exact .inl
 subst eS
 have rg:∀(o3 o4 o5 o6 o7 o8 o9:Option S),R7 (Zc (Zn DL.Vs (Zn DL.Vs ↑0 (Zd 2)) ↑9) (Zc (Zn Qg (Zd 2) ↑10) Zj)) [Io (nD n1 m1),Io (nD n2 m2),Jo (R:Int),o3,o4,o5,o6,o7,o8,o9]=.ok (ks.map D.int):=fun o3 o4 o5 o6 o7 o8 o9=>by
  unfold R7
  rw[aC (d:=.int (0-(R:Int)-9)) rfl (Law.a1 (d:=.int ((R:Int)+10)) rfl),M.bind_ok]
  show(if(-1000000<=0-(R:Int)-9/\0-(R:Int)-9<=1000000)/\-1000000<=(R:Int)+10/\(R:Int)+10<=1000000 then M.ok (Uc (0-(R:Int)-9) ((R:Int)+10-(0-(R:Int)-9)).toNat) else .bad)=_
  rw[if_pos (by lia),Za4,hks]
 refine(Zgq _ _ _ _ _).trans (Qb (go (Jt 3 _) (go (f:=Xr _ (Yw 4) (Xr _ (Yw 5) Zni)) ((Q3 (ds:=[.int 1,.int (-1)]) (Uu (B7 (aC rfl (Law.a1 rfl)) rfl))).trans ((Q0 rfl ((Q3 (rg _ _ _ _ _ _ _)).trans r1)).trans ((Q0 rfl ((Q3 (rg _ _ _ _ _ _ _)).trans r2)).trans rfl))) (go (Jt 8 _) (Nx (go (f:=Xr _ (Yw 7) Zoz) ((Q3 (Uu rfl)).trans s3) rfl))))))
end
def Zen {t b:Int}(hb:0<b):Ww (Qq t b) (nD 0 1)=.ok (.bl (!(t==0))):=by
 rw[Wm (by rw[Iz];simp[nD,D.dep,D.deps])]
 have:D.eq (Qq t b) (nD 0 1)=(t==0):=by
  have h:=@Zh7 t b hb
  rw[Iz] at h ⊢
  rw[Bool.eq_iff_iff,beq_iff_eq,<-h]
  simp only[nD,D.eq,D.eqs,Bool.and_true,Bool.and_eq_true,beq_iff_eq]
  constructor
  ·rintro⟨h1,h2⟩;rw[h1,h2]
  ·intro h;injection h with h;injection h with h1 h;injection h1 with h1;injection h with h2 _;injection h2 with h2;exact⟨h1,h2⟩
 rw[this]
def Zoq:Zf->M O:=(Jf (DL.tO (DL.tB (Zn Ww (Zd 10) (Qn (Zc ↑0 (Zc ↑1 Zj))))) (DL.tB (Zn Ww (Zd 11) (Qn (Zc ↑0 (Zc ↑1 Zj)))))) (K8 9 (Qn (Zc (Zd 10) (Zc (Zd 11) Zj)))) Q8)
theorem Zeo (o0 o1 o2 o3 o4 o5 o6 o7 o8 o12 o13 o14:Option S){bx by' x:Int}(hbx:0<bx)(hby:0<by'):∀(ys:List Int) (acc:List (Int×Int)) (v11:Option S),acc.length+ys.length<=1000->∃w11:Option S,
  Y1 (Yw 11) Zoq (ys.map fun y=>Qq y by') [o0,o1,o2,o3,o4,o5,o6,o7,o8,some (.ow (acc.map fun t=>(U0 bx by' t).D)),Io (Qq x bx),v11,o12,o13,o14]=.ok (.nx [o0,o1,o2,o3,o4,o5,o6,o7,o8,some (.ow ((acc++(ys.map fun y=>(x,y)).filter nz).map fun t=>(U0 bx by' t).D)),Io (Qq x bx),w11,o12,o13,o14])
 |[],acc,v7,_=>⟨v7,by rw[show acc++List.filter nz (([]:List Int).map fun y=>(x,y))=acc from List.append_nil _];rfl⟩
 |y::ys,acc,v7,hl=>by
  rw[List.length_cons] at hl
  have c:DL.tO (DL.tB (Zn Ww (Zd 10) (Qn (Zc ↑0 (Zc ↑1 Zj))))) (DL.tB (Zn Ww (Zd 11) (Qn (Zc ↑0 (Zc ↑1 Zj))))) [o0,o1,o2,o3,o4,o5,o6,o7,o8,some (.ow (acc.map fun t=>(U0 bx by' t).D)),Io (Qq x bx),Io (Qq y by'),o12,o13,o14]=.ok (nz (x,y)):=by
   refine(Zke (Qm (Zk (x:=Qq x bx) (y:=nD 0 1) rfl (Uz rfl rfl) (Zen hbx))) (Qm (Zk (x:=Qq y by') (y:=nD 0 1) rfl (Uz rfl rfl) (Zen hby)))).trans ?_
   congr 1
   unfold nz
   rw[Bool.not_and]
  cases q:nz (x,y) with
  |false=>
   rw[q] at c
   obtain⟨w7,e⟩:=Zeo o0 o1 o2 o3 o4 o5 o6 o7 o8 o12 o13 o14 hbx hby ys acc (Io (Qq y by')) (by lia)
   refine⟨w7,?_⟩
   rw[List.map_cons,List.map_cons,List.filter_cons_of_neg (by rw[q];decide)]
   exact(Q0 rfl (Z0 c)).trans e
  |true=>
   rw[q] at c
   obtain⟨w7,e⟩:=Zeo o0 o1 o2 o3 o4 o5 o6 o7 o8 o12 o13 o14 hbx hby ys (acc++[(x,y)]) (Io (Qq y by')) (by rw[List.length_append,List.length_singleton];lia)
   refine⟨w7,?_⟩
   rw[List.map_cons,List.map_cons,List.filter_cons_of_pos q]
   rw[List.append_assoc] at e
   refine(Q0 (sd2:=[o0,o1,o2,o3,o4,o5,o6,o7,o8,some (.ow ((acc++[(x,y)]).map fun t=>(U0 bx by' t).D)),Io (Qq x bx),Io (Qq y by'),o12,o13,o14]) rfl (Qp c ?_)).trans e
   rw[List.map_append]
   exact Pz rfl (Uz rfl rfl) (by rw[List.length_map];lia)
theorem Zep (o0 o1 o2 o3 o4 o5 o6 o7 o8 o12 o13 o14:Option S){bx by':Int}(hbx:0<bx)(hby:0<by'){ys:List Int}{fi:Zf->M (List D)}(hfi:∀o9 o10 o11,fi [o0,o1,o2,o3,o4,o5,o6,o7,o8,o9,o10,o11,o12,o13,o14]=.ok (ys.map fun y=>Qq y by')):∀(xs:List Int) (acc:List (Int×Int)) (v10 v11:Option S),acc.length+xs.length*ys.length<=1000->∃w10 w11:Option S,
  Y1 (Yw 10) (Xr fi (Yw 11) Zoq) (xs.map fun x=>Qq x bx) [o0,o1,o2,o3,o4,o5,o6,o7,o8,some (.ow (acc.map fun t=>(U0 bx by' t).D)),v10,v11,o12,o13,o14]=.ok (.nx [o0,o1,o2,o3,o4,o5,o6,o7,o8,some (.ow ((acc++(xs.flatMap fun x=>ys.map fun y=>(x,y)).filter nz).map fun t=>(U0 bx by' t).D)),w10,w11,o12,o13,o14])
 |[],acc,v6,v7,_=>⟨v6,v7,by rw[List.flatMap_nil,List.filter_nil,List.append_nil];rfl⟩
 |x::xs,acc,v6,v7,hl=>by
  rw[List.length_cons,Nat.add_mul,Nat.one_mul] at hl
  obtain⟨a7,e1⟩:=Zeo o0 o1 o2 o3 o4 o5 o6 o7 o8 o12 o13 o14 (x:=x) hbx hby ys acc v7 (by lia)
  have lf:=List.length_filter_le nz (ys.map fun y=>(x,y))
  rw[List.length_map] at lf
  obtain⟨w6,w7,e2⟩:=Zep o0 o1 o2 o3 o4 o5 o6 o7 o8 o12 o13 o14 hbx hby hfi xs (acc++(ys.map fun y=>(x,y)).filter nz) (Io (Qq x bx)) a7 (by rw[List.length_append];lia)
  refine⟨w6,w7,?_⟩
  rw[List.append_assoc] at e2
  rw[List.map_cons,List.flatMap_cons,List.filter_append]
  exact(Q0 rfl ((Q3 (hfi _ _ _)).trans e1)).trans e2
abbrev Za5:=(Int×Int)×(Str×D)
def Gm (bx by':Int)(r:Za5):D:=.tup [Qq r.1.1 bx,Qq r.1.2 by',.str r.2.1,r.2.2]
def Zkw (hall:D)(q:Nn)(p o:Po4)(most:D)(bx by':Int)(r:Za5):Prop:=∃w tn,wD hall q p.D (U0 bx by' r.1).D most=.ok (.tup [.str w,r.2.2,.lst tn])/\Nz r.2.2/\((w=Str.ofString "end"/\r.2.2=o.D)->r.2.1=Str.ofString "seen")/\(¬(w=Str.ofString "end"/\r.2.2=o.D)->r.2.1=w)
theorem I9 {hall:D}{ppl:List D}{q:Nn}{one other most reach:D}{p o:Po4}(hp:Jg (.lst ppl) one=.ok p.D)(ho:Jg (.lst ppl) other=.ok o.D){bx by':Int}:∀(L:List (Int×Int)) (fo:List D),(∀t∈L,∃w pt tn,wD hall q p.D (U0 bx by' t).D most=.ok (.tup [.str w,pt,.lst tn])/\Nz pt)->fo.length+L.length<=1000 ->
  ∃rows:List Za5,W1 hall ppl q one other most reach (L.map fun t=>(U0 bx by' t).D) fo=.ok (fo++rows.map (Gm bx by'))/\rows.map (·.1)=L/\∀r∈rows,Zkw hall q p o most bx by' r
 |[],fo,_,_=>⟨[],by rw[show fo++([]:List Za5).map (Gm bx by')=fo from List.append_nil _];rfl,rfl,fun _ h=>by cases h⟩
 |t::L,fo,hw,hl=>by
  rw[List.length_cons] at hl
  obtain⟨w,pt,tn,e,ip⟩:=hw t (.head _)
  obtain⟨b,eb,hb⟩:=Dx (w:=w) (tn:=tn) ip o
  obtain⟨wd,ew,hwd⟩:∃wd:Str,C9 (T4 hall ppl one other most reach none none (Io (U0 bx by' t).D) (Io (.tup [.str w,pt,.lst tn])) none)=.ok (.str wd)/\((w=Str.ofString "end"/\pt=o.D)->wd=Str.ofString "seen")/\(¬(w=Str.ofString "end"/\pt=o.D)->wd=w):=by
   have et:DL.tB (Zv Wj (Zc (Zd 9) (Zc (Zn Jg (Zd 1) (Zd 3)) Zj))) (T4 hall ppl one other most reach none none (Io (U0 bx by' t).D) (Io (.tup [.str w,pt,.lst tn])) none)=.ok b:=Qm (Z2 (aC rfl (Law.a1 (Zk rfl rfl ho))) eb rfl)
   unfold C9 Ao
   rw[et,M.bind_ok]
   cases b with
   |true=>exact⟨Str.ofString "seen", by rw[if_pos rfl];rfl,fun _=>rfl,fun z=>absurd (hb.mp rfl) z⟩
   |false=>exact⟨w,by rw[if_neg (by decide)];exact Zp rfl rfl (Yx _ _),fun z=>absurd (hb.mpr z) (by decide),fun _=>rfl⟩
  have er:Zaj (T4 hall ppl one other most reach none none (Io (U0 bx by' t).D) (Io (.tup [.str w,pt,.lst tn])) (Io (.str wd)))=.ok (Gm bx by' (t,wd,pt)):=by
   unfold Zaj Qn
   rw[aC (d:=Qq t.1 bx) (Zp rfl rfl (Yx _ _)) (aC (d:=Qq t.2 by') (Zp rfl rfl (Yu _ _ _)) (aC (d:=.str wd) rfl (Law.a1 (d:=pt) (Zp rfl rfl (Yu _ _ _)))))]
   rfl
  have run:W1 hall ppl q one other most reach ((t::L).map fun t=>(U0 bx by' t).D) fo=if few fo=true then W1 hall ppl q one other most reach (L.map fun t=>(U0 bx by' t).D) (fo++[Gm bx by' (t,wd,pt)]) else .bad:=by
   rw[List.map_cons]
   conv=>lhs;unfold W1
   rw[hp,M.bind_ok,e,M.bind_ok,ew,M.bind_ok,er,M.bind_ok]
  obtain⟨rows,e1,e2,e3⟩:=I9 hp ho L (fo++[Gm bx by' (t,wd,pt)]) (fun t ht=>hw t (.tail _ ht)) (by rw[List.length_append,List.length_singleton];lia)
  refine⟨(t,wd,pt)::rows,?_,by rw[List.map_cons,e2],fun r hr=>?_⟩
  ·rw[run,if_pos (Kn (by lia)),e1,List.append_assoc]
   rfl
  ·rcases List.mem_cons.mp hr with rfl|hr
   ·exact⟨w,tn,e,ip,hwd⟩
   ·exact e3 r hr
section
variable {W H:Nat}{ss:List Sd}{ps:List Po4}{q:Nn}{m:Nat}
def Dz (hW:W<=8)(hH:H<=8)(hl:ss.length<=400)(hp:∀p∈ps,PtOk W H p)(hq:Fg [] (ps.map Po4.D)=some q)(e2:∀x y:Int,look q [.inl x,.inl y]=look [] [.inl x,.inl y]++(ps.filter (Ah x y)).map Po4.D)(lp:ps.length<=100){i j:Nat}{p o:Po4}(hi:ps[i]?=some p)(hj:ps[j]?=some o)(hm:m<=100){R:Nat}(hR:R<=14):
  ∃(xs ys:List Int) (rows:List Za5),Tops p.a p.b o.a o.b R xs/\Tops p.c p.d o.c o.d R ys/\xs.length*ys.length<=900/\rows.map (·.1)=(xs.flatMap fun x=>ys.map fun y=>(x,y)).filter nz/\(∀r∈rows,Zkw (Qi W H ss) q p o (.int (m:Int)) (p.b*o.b) (p.d*o.d) r)/\rows.length<=900/\F_images [Qi W H ss,.lst (ps.map Po4.D),.int (i:Int),.int (j:Int),.int (m:Int),.int (R:Int)]=.ok (.ow (rows.map (Gm (p.b*o.b) (p.d*o.d)))):=by
 have op:=hp p (List.mem_of_getElem? hi)
 have oo:=hp o (List.mem_of_getElem? hj)
 obtain⟨xs,ys,tx,ty,lm,es⟩:=Zhe hW hH op oo hR hR
 obtain⟨a1,a2,_⟩:=Jv op.x hW
 obtain⟨a3,a4,_⟩:=Jv oo.x hW
 obtain⟨a5,a6,_⟩:=Jv op.y hH
 obtain⟨a7,a8,_⟩:=Jv oo.y hH
 have B0:=Int.mul_pos a1 a3
 have B1:p.b*o.b<=1000*1000:=Int.mul_le_mul a2 a4 (by lia) (by decide)
 have C0:=Int.mul_pos a5 a7
 have C1:p.d*o.d<=1000*1000:=Int.mul_le_mul a6 a8 (by lia) (by decide)
 have gi:Jg (.lst (ps.map Po4.D)) (.int (i:Int))=.ok p.D:=by
  show(match N2 (ps.map Po4.D) (i:Int) with|some d=>M.ok d|none=>.bad)=_
  rw[Ke (show(ps.map Po4.D)[i]?=some p.D by rw[List.getElem?_map,hi];rfl)]
 have gj:Jg (.lst (ps.map Po4.D)) (.int (j:Int))=.ok o.D:=by
  show(match N2 (ps.map Po4.D) (j:Int) with|some d=>M.ok d|none=>.bad)=_
  rw[Ke (show(ps.map Po4.D)[j]?=some o.D by rw[List.getElem?_map,hj];rfl)]
 have hok:∀t∈(xs.flatMap fun x=>ys.map fun y=>(x,y)).filter nz,StOk (U0 (p.b*o.b) (p.d*o.d) t):=fun t ht=>by
  obtain⟨h1,h2⟩:=List.mem_filter.mp ht
  obtain⟨x,hx1,h1⟩:=List.mem_flatMap.mp h1
  obtain⟨y,hy1,rfl⟩:=List.mem_map.mp h1
  exact(Zek B0 (by lia) C0 (by lia) (Sf tx B0 hR hx1) (Sf ty C0 hR hy1) h2).1
 have ll:((xs.flatMap fun x=>ys.map fun y=>(x,y)).filter nz).length<=900:=by
  refine Nat.le_trans (List.length_filter_le _ _) ?_
  rw[List.length_flatMap]
  simp only[List.length_map,List.map_const',List.sum_replicate_nat]
  exact lm
 obtain⟨rows,r1,r2,r3⟩:=I9 (hall:=Qi W H ss) (q:=q) (most:=.int (m:Int)) (reach:=.int (R:Int)) gi gj (bx:=p.b*o.b) (by':=p.d*o.d) ((xs.flatMap fun x=>ys.map fun y=>(x,y)).filter nz) [] (fun t ht=>by
  obtain⟨d,e1,_,_,_,_,_,w,pt,tn,rfl,ip,_⟩:=Zeh (ss:=ss) (most:=m) hW hH hl hp e2 op.st (hok t ht) (by lia)
  exact⟨w,pt,tn,e1,ip⟩) (by simp;lia)
 rw[List.nil_append] at r1
 refine⟨xs,ys,rows,tx,ty,lm,r2,r3,by rw[<-r2,List.length_map] at ll;exact ll,?_⟩
 have ei:iI (T4 (Qi W H ss) (ps.map Po4.D) (.int (i:Int)) (.int (j:Int)) (.int (m:Int)) (.int (R:Int)) none none none none none)=.ok (((xs.flatMap fun x=>ys.map fun y=>(x,y)).filter nz).map fun t=>(U0 (p.b*o.b) (p.d*o.d) t).D):=
  Uu (Z2 (aC (Zk rfl rfl gi) (aC (Zk rfl rfl gj) (aC rfl (Law.a1 rfl)))) es rfl)
 simp only[F_images,hq]
 rw[if_pos (by rw[List.length_map];lia),ei,M.bind_ok,if_pos (by rw[List.length_map];lia),r1]
 rfl
end
def Fp {a b:Int}(h:0<b)(g:Int.gcd a b=1):Yc [nD a b]=.ok (.im (.bl true)):=by
 have e:=Zdv a b
 rw[g] at e
 have st:∀(x:Int) (v:Option S),(Jf (DL.tO (DL.tN (DL.tB (D0 "int" (Zd 1)))) (DL.tB (D0 "bool" (Zd 1)))) (Qv (eC (.bl false))) Q8) [Io (nD a b),Jo x]=.ok (.nx [Io (nD a b),Jo x]):=fun x v=>Z0 (Rk (Tt rfl) rfl)
 refine(Zmo _ _ _).trans (Qb (go (Z0 (Rk (Tt rfl) (Qm (Zk (x:=.int 2) (Xv (Law.a1 rfl) rfl) rfl (by rw[Wm (by simp[D.dep])];rfl))))) (go ((Q3 (ds:=[.int a,.int b]) (Ms rfl)).trans ((Q0 rfl (st a none)).trans ((Q0 rfl (st b none)).trans rfl))) (Z6 (B8 (b:=true) (Zk (Zp rfl rfl (Yu _ _ _)) rfl (Zea h)) (Zk (Z2 (aC (Zp rfl rfl (Yx _ _)) (Law.a1 (Zp rfl rfl (Yu _ _ _)))) e rfl) rfl (by rw[Jd (by simp[D.dep])];rfl)))))))
def Oa {t b:Int}(hb:0<b):Yc [Qq t b]=.ok (.im (.bl true)):=by
 obtain⟨p,q,e,q0,_,g,_⟩:=Ys (t:=t) hb
 rw[e]
 exact Fp q0 g
section
variable {W H:Nat}{ss:List Sd}{ps:List Po4}{q:Nn}{m:Nat}
def Zhg (hW:W<=8)(hH:H<=8)(hl:ss.length<=400)(hp:∀p∈ps,PtOk W H p)(e2:∀x y:Int,look q [.inl x,.inl y]=look [] [.inl x,.inl y]++(ps.filter (Ah x y)).map Po4.D)(lp:ps.length<=100){i j:Nat}{p o:Po4}(hi:ps[i]?=some p)(hj:ps[j]?=some o)(hm:m<=100){r:Za5}(hs:StOk (U0 (p.b*o.b) (p.d*o.d) r.1))(hr:Zkw (Qi W H ss) q p o (.int (m:Int)) (p.b*o.b) (p.d*o.d) r):K4 [Qi W H ss,.lst (ps.map Po4.D),.int (i:Int),.int (j:Int),.int (m:Int),Gm (p.b*o.b) (p.d*o.d) r]=.ok (.im (.bl true)):=by
 have op:=hp p (List.mem_of_getElem? hi)
 have oo:=hp o (List.mem_of_getElem? hj)
 have B0:=Int.mul_pos op.x.fr.pos oo.x.fr.pos
 have C0:=Int.mul_pos op.y.fr.pos oo.y.fr.pos
 obtain⟨t,wd,pt⟩:=r
 obtain⟨w,tn,e,ip,h1,h2⟩:=hr
 dsimp only at e ip h1 h2 hs
 obtain⟨d,fd,kd,_,_,_,_,w',pt',tn',ed,ipt,itn,ltn⟩:=Zeg (ss:=ss) (p:=p) (s:=U0 (p.b*o.b) (p.d*o.d) t) (most:=m) hW hH hl hp (by lia) op.st hs (by lia)
 obtain⟨d',fd',kd',_⟩:=Zeh (ss:=ss) (p:=p) (s:=U0 (p.b*o.b) (p.d*o.d) t) (most:=m) hW hH hl hp e2 op.st hs (by lia)
 rw[kd] at kd'
 injection kd' with kd'
 subst kd'
 rw[e] at fd'
 injection fd' with fd'
 subst fd'
 have gi:Jg (.lst (ps.map Po4.D)) (.int (i:Int))=.ok p.D:=by
  show(match N2 (ps.map Po4.D) (i:Int) with|some d=>M.ok d|none=>.bad)=_
  rw[Ke (show(ps.map Po4.D)[i]?=some p.D by rw[List.getElem?_map,hi];rfl)]
 have gj:Jg (.lst (ps.map Po4.D)) (.int (j:Int))=.ok o.D:=by
  show(match N2 (ps.map Po4.D) (j:Int) with|some d=>M.ok d|none=>.bad)=_
  rw[Ke (show(ps.map Po4.D)[j]?=some o.D by rw[List.getElem?_map,hj];rfl)]
 have iq:=ip
 obtain⟨a,b,c,dd,rfl,f1,g1,f2,g2⟩:=ip
 have t1:(DL.tO (DL.tN (DL.tB (D0 "tuple" (Zd 5)))) (DL.tO (DL.tB (Zn Ww (Jx Vz (Zc (Zd 5) Zj)) ↑4)) (DL.tO (DL.tN (DL.tB (D0 "str" 5[2]!))) (DL.tN (DL.tB (D0 "tuple" 5[3]!)))))) [Io (Qi W H ss),Io (.lst (ps.map Po4.D)),Jo (i:Int),Jo (j:Int),Jo (m:Int),Io (Gm (p.b*o.b) (p.d*o.d) (t,wd,.tup [nD a b,nD c dd])),none,none,none]=.ok false:=by
  refine Rk (Tt rfl) (Rk (Qm (Zk (x:=.int 4) (Xv (Law.a1 rfl) rfl) rfl (by rw[Wm (by simp[D.dep])];rfl))) (Rk (Tt rfl) (Tt rfl)))
 have em:Wx (Yw 0) (Zv Yc (Zc (Zd 0) Zj)) (V5 1 [] [Io (Qi W H ss),Io (.lst (ps.map Po4.D)),Jo (i:Int),Jo (j:Int),Jo (m:Int),Io (Gm (p.b*o.b) (p.d*o.d) (t,wd,.tup [nD a b,nD c dd])),none,none,none]) ([Qq t.1 (p.b*o.b),Qq t.2 (p.d*o.d),nD a b,nD c dd].map id)=.ok ([Qq t.1 (p.b*o.b),Qq t.2 (p.d*o.d),nD a b,nD c dd].map fun _=>.bl true):=by
  have hn:∀x∈[Qq t.1 (p.b*o.b),Qq t.2 (p.d*o.d),nD a b,nD c dd],Yc [x]=.ok (.im (.bl true)):=fun x hx=>by
   simp only[List.mem_cons,List.not_mem_nil,or_false] at hx
   rcases hx with rfl|rfl|rfl|rfl
   ·exact Oa B0
   ·exact Oa C0
   ·exact Fp f1.pos g1
   ·exact Fp f2.pos g2
  exact Zau id (fun _=>.bl true) _ fun x hx=>⟨_,rfl,Z2 (Law.a1 rfl) (hn x hx) rfl⟩
 rw[List.map_id] at em
 have t2:(DL.tO (DL.tN (DL.tB (Jx O0 (Zc (U7 (Ut (Xi (Zn Qg (L5 (Zd 5) Kp (Xd ↑2)) 5[3]!)) 1 [] (Yw 0) (Zv Yc (Zc (Zd 0) Zj)))) Zj)))) (DL.tB (Zn Ww (Jx Vz (Zc 5[3]! Zj)) ↑2))) [Io (Qi W H ss),Io (.lst (ps.map Po4.D)),Jo (i:Int),Jo (j:Int),Jo (m:Int),Io (Gm (p.b*o.b) (p.d*o.d) (t,wd,.tup [nD a b,nD c dd])),none,none,none]=.ok false:=by
  refine Rk (Tt (Qm (Xv (Law.a1 (d:=.lst [.bl true,.bl true,.bl true,.bl true]) (Tw (Nw (ds:=[Qq t.1 (p.b*o.b),Qq t.2 (p.d*o.d),nD a b,nD c dd]) (Ms (Zk (x:=.tup [Qq t.1 (p.b*o.b),Qq t.2 (p.d*o.d)]) (y:=.tup [nD a b,nD c dd]) rfl (Zp rfl rfl rfl) rfl)) (by simp) em))) rfl))) (Qm (Zk (x:=.int 2) (Xv (Law.a1 (d:=.tup [nD a b,nD c dd]) (Zp rfl rfl rfl)) rfl) rfl (by rw[Wm (by simp[D.dep])];rfl)))
 have t3:(DL.tA (DL.tB (Zn Jw (Zd 6) ↑"end")) (DL.tB (Zn Jw (Zd 7) (Zn Jg (Zd 1) (Zd 3))))) [Io (Qi W H ss),Io (.lst (ps.map Po4.D)),Jo (i:Int),Jo (j:Int),Jo (m:Int),Io (Gm (p.b*o.b) (p.d*o.d) (t,wd,.tup [nD a b,nD c dd])),Io (.str w),Io (.tup [nD a b,nD c dd]),Io (.lst tn)]=.ok (decide (w=Str.ofString "end")&&D.eq (.tup [nD a b,nD c dd]) o.D):=
  Zkf (Qm (Zk (x:=.str w) rfl rfl (Jd (by simp[D.dep])))) (Qm (Zk (x:=.tup [nD a b,nD c dd]) rfl (Zk rfl rfl gj) (Jd (by simp[nD,D.dep,D.deps]))))
 have iff:(decide (w=Str.ofString "end")&&D.eq (.tup [nD a b,nD c dd]) o.D)=true↔(w=Str.ofString "end"/\(.tup [nD a b,nD c dd]:D)=o.D):=by rw[Bool.and_eq_true,decide_eq_true_iff,Zh8 iq]
 have fin:∀v6:Str,v6=wd->Zn Jw (L5 (Zd 5) (Xd ↑2) Kp) (Qn (Zc (Zd 6) (Zc (Zd 7) Zj))) [Io (Qi W H ss),Io (.lst (ps.map Po4.D)),Jo (i:Int),Jo (j:Int),Jo (m:Int),Io (Gm (p.b*o.b) (p.d*o.d) (t,wd,.tup [nD a b,nD c dd])),Io (.str v6),Io (.tup [nD a b,nD c dd]),Io (.lst tn)]=.ok (.bl true):=fun v6 h=>by
  subst h
  refine Zk (x:=.tup [.str v6,.tup [nD a b,nD c dd]]) (y:=.tup [.str v6,.tup [nD a b,nD c dd]]) rfl (Uz rfl rfl) ?_
  rw[Jd (by simp[nD,D.dep,D.deps]),D.eq_refl]
 have ws:L5 (Zd 5) Kp (Xd ↑2) [Io (Qi W H ss),Io (.lst (ps.map Po4.D)),Jo (i:Int),Jo (j:Int),Jo (m:Int),Io (Gm (p.b*o.b) (p.d*o.d) (t,wd,.tup [nD a b,nD c dd])),none,none,none]=.ok (U0 (p.b*o.b) (p.d*o.d) t).D:=rfl
 have h6:∀{f:Zf->M O}{a0 a1 a2 a3 a4 a5:D},V8 6 3 f [a0,a1,a2,a3,a4,a5]=Gz (f [Io a0,Io a1,Io a2,Io a3,Io a4,Io a5,none,none,none]):=rfl
 refine h6.trans (Qb (go (Z0 t1) (go (Z0 t2) (go (Zm4 (Z2 (aC rfl (aC rfl (aC (Zk rfl rfl gi) (aC ws (Law.a1 rfl))))) fd rfl)) ?_))))
 cases hb:(decide (w=Str.ofString "end")&&D.eq (.tup [nD a b,nD c dd]) o.D) with
 |true=>
  rw[hb] at t3
  exact go (Qp t3 rfl) (Z6 (fin _ (h1 (iff.mp hb)).symm))
 |false=>
  rw[hb] at t3
  exact go (Z0 t3) (Z6 (fin _ (h2 (fun z=>by rw[iff.mpr z] at hb;cases hb)).symm))
end
def law_true (ns:List Int)(hns:ns.length<=63):Mq [.lst (ns.map D.int)]=.ok (.im (.bl true)):=by
 obtain⟨W,H,m0,w0,w1,h0,h1,m3,hx,hy,es⟩:=Zku (cz ns 0)
 obtain⟨ss0,lss0,eh⟩:=Zkr (cz ns 1) w1 h1
 obtain⟨n,en,hn⟩:=Se (cz ns 3) (m:=4) (by decide)
 obtain⟨ps,hp,nd,lp,lp1,ep⟩:=Zdz (cz ns 2) (n:=1+n) (by lia) (by lia) w0 (by lia:W<=8) h0 (by lia:H<=8)
 obtain⟨i,ei,hi⟩:=Se (cz ns 4) (m:=ps.length) lp1
 obtain⟨j,ej,hj⟩:=Se (cz ns 4/8) (m:=ps.length) lp1
 have gi:ps[i]?=some ps[i]:=List.getElem?_eq_getElem hi
 have gj:ps[j]?=some ps[j]:=List.getElem?_eq_getElem hj
 generalize ps[i]=p at gi
 generalize ps[j]=o at gj
 have op:=hp p (List.mem_of_getElem? gi)
 have oo:=hp o (List.mem_of_getElem? gj)
 have k0:=Int.emod_nonneg (cz ns 5) (show(6:Int)≠0 by decide)
 have k1:=Int.emod_lt_of_pos (cz ns 5) (show(0:Int)<6 by decide)
 obtain⟨R,hR,eR⟩:∃R:Nat,R<=5/\Jg (.lst [.int 1,.int 2,.int 2,.int 3,.int 2,.int 5]) (.int (cz ns 5%6))=.ok (.int (R:Int)):=by
  generalize cz ns 5%6=k at *
  have:k=0\/k=1\/k=2\/k=3\/k=4\/k=5:=by lia
  rcases this with rfl|rfl|rfl|rfl|rfl|rfl
  ·exact⟨1,by decide,rfl⟩
  ·exact⟨2,by decide,rfl⟩
  ·exact⟨2,by decide,rfl⟩
  ·exact⟨3,by decide,rfl⟩
  ·exact⟨2,by decide,rfl⟩
  ·exact⟨5,by decide,rfl⟩
 obtain⟨dm,edm,hdm⟩:=Se (cz ns 5/6) (m:=4) (by decide)
 obtain⟨ss,lss,ess⟩:∃ss:List Sd,ss.length<=400/\(ss=ss0/\(cz ns 3/4%2==1)=false\/ss=ss0.reverse/\(cz ns 3/4%2==1)=true):=by
  cases hb:(cz ns 3/4%2==1) with
  |false=>exact⟨ss0,lss0,.inl ⟨rfl,rfl⟩⟩
  |true=>exact⟨ss0.reverse,by rw[List.length_reverse];exact lss0,.inr ⟨rfl,rfl⟩⟩
 obtain⟨q,hq,e2⟩:=Zko ps [] fun r hr=>(hp r hr).ok
 obtain⟨xs,ys,rows,tx,ty,lm,hL,hrow,lrow,fI⟩:=Dz (ss:=ss) (m:=m0+dm) (R:=R) (by lia:W<=8) (by lia:H<=8) lss hp hq e2 (by lia) gi gj (by lia) (by lia)
 obtain⟨a1,a2,_⟩:=Jv op.x (by lia)
 obtain⟨a3,a4,_⟩:=Jv oo.x (by lia)
 obtain⟨a5,a6,_⟩:=Jv op.y (by lia)
 obtain⟨a7,a8,_⟩:=Jv oo.y (by lia)
 have B0:=Int.mul_pos a1 a3
 have B1:p.b*o.b<=1000*1000:=Int.mul_le_mul a2 a4 (by lia) (by decide)
 have C0:=Int.mul_pos a5 a7
 have C1:p.d*o.d<=1000*1000:=Int.mul_le_mul a6 a8 (by lia) (by decide)
 have sX:=Dy w1 op.x oo.x (by lia:R<=14) tx
 have sY:=Dy h1 op.y oo.y (by lia:R<=14) ty
 have sok:∀r∈rows,StOk (U0 (p.b*o.b) (p.d*o.d) r.1):=fun r hr=>by
  have ht:r.1∈(xs.flatMap fun x=>ys.map fun y=>(x,y)).filter nz:=by rw[<-hL];exact List.mem_map.mpr ⟨r,hr,rfl⟩
  obtain⟨h1,h2⟩:=List.mem_filter.mp ht
  obtain⟨x,hx1,h1⟩:=List.mem_flatMap.mp h1
  obtain⟨y,hy1,h1⟩:=List.mem_map.mp h1
  have:=(Zek B0 (by lia) C0 (by lia) (t:=(x,y)) (Sf tx B0 (by lia) hx1) (Sf ty C0 (by lia) hy1) (by rw[h1];exact h2)).1
  rw[h1] at this
  exact this
 have gi':Jg (.lst (ps.map Po4.D)) (.int (i:Int))=.ok p.D:=by
  show(match N2 (ps.map Po4.D) (i:Int) with|some d=>M.ok d|none=>.bad)=_
  rw[Ke (show(ps.map Po4.D)[i]?=some p.D by rw[List.getElem?_map,gi];rfl)]
 have gj':Jg (.lst (ps.map Po4.D)) (.int (j:Int))=.ok o.D:=by
  show(match N2 (ps.map Po4.D) (j:Int) with|some d=>M.ok d|none=>.bad)=_
  rw[Ke (show(ps.map Po4.D)[j]?=some o.D by rw[List.getElem?_map,gj];rfl)]
 have f0:=P0 ns 0 hns
 have f1:=P0 ns 1 hns
 have f2:=P0 ns 2 hns
 have f3:=P0 ns 3 hns
 have f4:=P0 ns 4 hns
 have f5:=P0 ns 5 hns
 have cn:((1+n:Nat):Int)=1+(n:Int):=by lia
 rw[cn] at ep
 have cm:((m0+dm:Nat):Int)=(m0:Int)+(dm:Int):=by lia
 generalize hN:ns.map D.int=N at *
 generalize hm:m0+dm=m at *
 have cl:∀(k:Nat) (r:List (Option S)),Q2 [.lst N,.int (k:Int)]=.ok (.im (.int (cz ns k)))->Zv Q2 (Zc (Zd 0) (Zc (eC (.int (k:Int))) Zj)) (Io (.lst N)::r)=.ok (.int (cz ns k)):=fun k r h=>Z2 (aC rfl (Law.a1 rfl)) h rfl
 have pn:∀r:List (Option S),Zn Qg ↑1 (Zn Q5 (Zv Q2 (Zc (Zd 0) (Zc ↑3 Zj))) ↑4) (Io (.lst N)::r)=.ok (.int (1+(n:Int))):=fun r=>Zk rfl (Zk (cl 3 r f3) rfl (gM (by decide))) (by rw[show cz ns 3%4=(n:Int) from en];rfl)
 have ln:∀(o1 o2 o3 o4:Option S) (r:List (Option S)),Jx Vz (Zc (Zd 5) Zj) (Io (.lst N)::o1::o2::o3::o4::Io (.lst (ps.map Po4.D))::r)=.ok (.int (ps.length:Int)):=fun o1 o2 o3 o4 r=>Xv (Law.a1 rfl) (by rw[Ab,List.length_map])
 have hh:(Jf (DL.tB (Zn Jw (Zn Q5 (Zn Yv (Zv Q2 (Zc (Zd 0) (Zc ↑3 Zj))) ↑4) ↑2) ↑1)) (Z8 4 (Qn (Zc (Zd 1) (Zc (Zd 2) (Zc (Zco 4[2]!) Zj))))) Q8) [Io (.lst N),Jo (W:Int),Jo (H:Int),Jo (m0:Int),Io (Qi W H ss0),none,none,none,none,none,none,none,none,none,none]=.ok (.nx [Io (.lst N),Jo (W:Int),Jo (H:Int),Jo (m0:Int),Io (Qi W H ss),none,none,none,none,none,none,none,none,none,none]):=by
  have tt:DL.tB (Zn Jw (Zn Q5 (Zn Yv (Zv Q2 (Zc (Zd 0) (Zc ↑3 Zj))) ↑4) ↑2) ↑1) [Io (.lst N),Jo (W:Int),Jo (H:Int),Jo (m0:Int),Io (Qi W H ss0),none,none,none,none,none,none,none,none,none,none]=.ok (cz ns 3/4%2==1):=Qm (Zk (Zk (Zk (cl 3 _ f3) rfl (D3 (by decide) (Wl (by decide) (by decide)))) rfl (gM (by decide))) rfl (X9 _ _))
  rcases ess with⟨rfl,hb⟩|⟨rfl,hb⟩<;>rw[hb] at tt
  ·exact Z0 tt
  ·refine Qp tt (Z1 ?_)
   have er:Zco 4[2]! [Io (.lst N),Jo (W:Int),Jo (H:Int),Jo (m0:Int),Io (Qi W H ss0),none,none,none,none,none,none,none,none,none,none]=.ok (.tup (ss0.reverse.map Sd.D)):=by
    have:Zn Jg (Zd 4) ↑2 [Io (.lst N),Jo (W:Int),Jo (H:Int),Jo (m0:Int),Io (Qi W H ss0),none,none,none,none,none,none,none,none,none,none]=.ok (.tup (ss0.map Sd.D)):=Zp rfl rfl rfl
    unfold Zco
    rw[this,List.map_reverse]
    rfl
   exact Ae rfl rfl er
 have em:Zn Qg (Zd 3) (Zn Q5 (Zn Yv (Zv Q2 (Zc (Zd 0) (Zc ↑5 Zj))) ↑6) ↑4) [Io (.lst N),Jo (W:Int),Jo (H:Int),Jo (m0:Int),Io (Qi W H ss),Io (.lst (ps.map Po4.D)),Jo (i:Int),Jo (j:Int),Jo (R:Int),none,none,none,none,none,none]=.ok (.int (m:Int)):=Zk rfl (Zk (Zk (cl 5 _ f5) rfl (D3 (by decide) (Wl (by decide) (by decide)))) rfl (gM (by decide))) (by rw[show cz ns 5/6%4=(dm:Int) from edm,cm];rfl)
 obtain⟨w10,w11,du⟩:=Zep (Io (.lst N)) (Jo (W:Int)) (Jo (H:Int)) (Jo (m:Int)) (Io (Qi W H ss)) (Io (.lst (ps.map Po4.D))) (Jo (i:Int)) (Jo (j:Int)) (Jo (R:Int)) none none none B0 C0 (ys:=ys) (fi:=Xi (Zv Kb (Zc (Zn Jg (Zn Jg (Zd 5) (Zd 6)) ↑1) (Zc (Zn Jg (Zn Jg (Zd 5) (Zd 7)) ↑1) (Zc (Zd 8) Zj))))) (fun _ _ _=>Uu (Z2 (aC (Zp (Zk rfl rfl gi') rfl (Yu _ _ _)) (aC (Zp (Zk rfl rfl gj') rfl (Yu _ _ _)) (Law.a1 rfl))) sY rfl)) xs [] none none (by simp;lia)
 rw[List.nil_append,<-hL,List.map_map] at du
 have ex:∀o9 o10 o11:Option S,Xi (Zv Kb (Zc (Zn Jg (Zn Jg (Zd 5) (Zd 6)) ↑0) (Zc (Zn Jg (Zn Jg (Zd 5) (Zd 7)) ↑0) (Zc (Zd 8) Zj)))) [Io (.lst N),Jo (W:Int),Jo (H:Int),Jo (m:Int),Io (Qi W H ss),Io (.lst (ps.map Po4.D)),Jo (i:Int),Jo (j:Int),Jo (R:Int),o9,o10,o11,none,none,none]=.ok (xs.map fun x=>Qq x (p.b*o.b)):=fun _ _ _=>Uu (Z2 (aC (Zp (Zk rfl rfl gi') rfl (Yx _ _)) (aC (Zp (Zk rfl rfl gj') rfl (Yx _ _)) (Law.a1 rfl))) sX rfl)
 have rdep:D.deps (rows.map (Gm (p.b*o.b) (p.d*o.d)))<=20:=Uq fun d hd=>by
  obtain⟨r,hr,rfl⟩:=List.mem_map.mp hd
  obtain⟨_,_,_,ip,_⟩:=hrow r hr
  have:=Dt ip
  unfold Gm
  simp only[Qq,nD,D.dep,D.deps]
  lia
 have sdep:D.deps (rows.map ((fun t=>(U0 (p.b*o.b) (p.d*o.d) t).D)∘fun x=>x.1))<=20:=Uq fun d hd=>by
  obtain⟨r,hr,rfl⟩:=List.mem_map.mp hd
  simp[Po4.D,nD,D.dep,D.deps]
 have own:Wy 13 (Rc F_images (Zc (Zd 4) (Zc (Zd 12) (Zc (Zd 6) (Zc (Zd 7) (Zc (Zd 3) (Zc (Zd 8) Zj))))))) [Io (.lst N),Jo (W:Int),Jo (H:Int),Jo (m:Int),Io (Qi W H ss),Io (.lst (ps.map Po4.D)),Jo (i:Int),Jo (j:Int),Jo (R:Int),some (.ow (rows.map ((fun t=>(U0 (p.b*o.b) (p.d*o.d) t).D)∘fun x=>x.1))),w10,w11,Io (.lst (ps.map Po4.D)),none,none]=.ok (.nx [Io (.lst N),Jo (W:Int),Jo (H:Int),Jo (m:Int),Io (Qi W H ss),Io (.lst (ps.map Po4.D)),Jo (i:Int),Jo (j:Int),Jo (R:Int),some (.ow (rows.map ((fun t=>(U0 (p.b*o.b) (p.d*o.d) t).D)∘fun x=>x.1))),w10,w11,Io (.lst (ps.map Po4.D)),some (.ow (rows.map (Gm (p.b*o.b) (p.d*o.d)))),none]):=by
  have ea:Zc (Zd 4) (Zc (Zd 12) (Zc (Zd 6) (Zc (Zd 7) (Zc (Zd 3) (Zc (Zd 8) Zj))))) [Io (.lst N),Jo (W:Int),Jo (H:Int),Jo (m:Int),Io (Qi W H ss),Io (.lst (ps.map Po4.D)),Jo (i:Int),Jo (j:Int),Jo (R:Int),some (.ow (rows.map ((fun t=>(U0 (p.b*o.b) (p.d*o.d) t).D)∘fun x=>x.1))),w10,w11,Io (.lst (ps.map Po4.D)),none,none]=.ok [Qi W H ss,.lst (ps.map Po4.D),.int (i:Int),.int (j:Int),.int (m:Int),.int (R:Int)]:=aC rfl (aC rfl (aC rfl (aC rfl (aC rfl (Law.a1 rfl)))))
  unfold Wy Rc
  rw[ea,M.bind_ok,fI]
  rfl
 generalize hbx:p.b*o.b=bx at *
 generalize hby:p.d*o.d=by' at *
 generalize hZ:rows.map ((fun t=>(U0 bx by' t).D)∘fun x=>x.1)=Z at *
 have cm1:Wx (Yw 0) (L5 (Zd 0) Kp (Xd ↑2)) (V5 1 [] ([]:Zf)) (rows.map (Gm bx by'))=.ok Z:=by
  rw[<-hZ]
  exact Zau (Gm bx by') ((fun t=>(U0 bx by' t).D)∘fun x=>x.1) rows fun r hr=>⟨_,rfl,rfl⟩
 have c1:∀v9:Option S,v9=Io (.lst Z)->(DL.tO (DL.tN (DL.tB (D0 "list" (Zd 13)))) (DL.tB (Zn Ww (U7 (Ut (Xi (Zd 13)) 1 [] (Yw 0) (L5 (Zd 0) Kp (Xd ↑2)))) (Zd 9)))) [Io (.lst N),Jo (W:Int),Jo (H:Int),Jo (m:Int),Io (Qi W H ss),Io (.lst (ps.map Po4.D)),Jo (i:Int),Jo (j:Int),Jo (R:Int),v9,w10,w11,Io (.lst (ps.map Po4.D)),Io (.lst (rows.map (Gm bx by'))),none]=.ok false:=fun v9 hv=>by
  subst hv
  refine Rk (Tt rfl) (Qm (Zk (x:=.lst Z) (y:=.lst Z) (Tw (Nw (Uu rfl) (by rw[List.length_map];lia) cm1)) rfl ?_))
  rw[Wm (by simp only[D.dep];lia),D.eq_refl]
  rfl
 have cm2:Wx (Yw 0) (Zv K4 (Zc (Zd 1) (Zc (Zd 2) (Zc (Zd 3) (Zc (Zd 4) (Zc (Zd 5) (Zc (Zd 0) Zj))))))) (V5 1 [4,5,6,7,3] [Io (.lst N),Jo (W:Int),Jo (H:Int),Jo (m:Int),Io (Qi W H ss),Io (.lst (ps.map Po4.D)),Jo (i:Int),Jo (j:Int),Jo (R:Int),Io (.lst Z),w10,w11,Io (.lst (ps.map Po4.D)),Io (.lst (rows.map (Gm bx by'))),none]) (rows.map (Gm bx by'))=.ok (rows.map fun _=>.bl true):=
  Zau (Gm bx by') (fun _=>.bl true) rows fun r hr=>⟨_,rfl,Z2 (aC rfl (aC rfl (aC rfl (aC rfl (aC rfl (Law.a1 rfl)))))) (by
   have:=Zhg (ss:=ss) (m:=m) (by lia:W<=8) (by lia:H<=8) lss hp e2 (by lia) gi gj (by lia) (r:=r) (by rw[hbx,hby];exact sok r hr) (by rw[hbx,hby];exact hrow r hr)
   rw[hbx,hby] at this
   exact this) rfl⟩
 have c2:(DL.tN (DL.tB (Jx O0 (Zc (U7 (Ut (Xi (Zd 13)) 1 [4,5,6,7,3] (Yw 0) (Zv K4 (Zc (Zd 1) (Zc (Zd 2) (Zc (Zd 3) (Zc (Zd 4) (Zc (Zd 5) (Zc (Zd 0) Zj))))))))) Zj)))) [Io (.lst N),Jo (W:Int),Jo (H:Int),Jo (m:Int),Io (Qi W H ss),Io (.lst (ps.map Po4.D)),Jo (i:Int),Jo (j:Int),Jo (R:Int),Io (.lst Z),w10,w11,Io (.lst (ps.map Po4.D)),Io (.lst (rows.map (Gm bx by'))),none]=.ok false:=by
  refine Tt (Qm (Xv (Law.a1 (d:=.lst (rows.map fun _=>.bl true)) (Tw (Nw (Uu rfl) (by rw[List.length_map];lia) cm2))) ?_))
  show(match X3 (rows.map fun _=>D.bl true) with|some bs=>M.ok (D.bl (bs.all id))|none=>.bad)=_
  rw[Tv]
  dsimp only
  rw[List.all_map]
  simp
 have pdep:D.dep (.lst (ps.map Po4.D))<=60:=by
  have:D.deps (ps.map Po4.D)<=5:=Uq fun d hd=>by
   obtain⟨q,_,rfl⟩:=List.mem_map.mp hd
   simp[Po4.D,nD,D.dep,D.deps]
  simp only[D.dep]
  lia
 refine(Zmo _ _ _).trans (Qb ?_)
 refine go (Zm4 (Z2 (Law.a1 (cl 0 _ f0)) es rfl)) ?_
 refine go (Z1 (Z2 (aC (cl 1 _ f1) (aC rfl (Law.a1 rfl))) eh rfl)) ?_
 refine go hh ?_
 refine go (Z1 (Z2 (aC (cl 2 _ f2) (aC (pn _) (aC rfl (Law.a1 rfl)))) ep rfl)) ?_
 refine go (Z1 (d:=.int (i:Int)) (Zk (cl 4 _ f4) (ln _ _ _ _ _) (by rw[gM (by lia),ei]))) ?_
 refine go (Z1 (d:=.int (j:Int)) (Zk (Zk (cl 4 _ f4) rfl (D3 (by decide) (Wl (by decide) (by decide)))) (ln _ _ _ _ _) (by rw[gM (by lia),ej]))) ?_
 refine go (Z1 (d:=.int (R:Int)) (Zk rfl (Zk (cl 5 _ f5) rfl (gM (by decide))) eR)) ?_
 refine go (Z1 em) ?_
 refine go (Jt 9 _) ?_
 refine go (f:=Xr _ (Yw 10) (Xr _ (Yw 11) Zoq)) ((Q3 (ex _ _ _)).trans du) ?_
 refine go (Z1 (d:=.lst (ps.map Po4.D)) (Xv (Law.a1 rfl) rfl)) ?_
 refine go own (Nx ?_)
 refine go (Z0 (Aa (c1 _ rfl))) ?_
 refine go (Z0 (Aa c2)) ?_
 refine go (sd':=[Io (.lst N),Jo (W:Int),Jo (H:Int),Jo (m:Int),Io (Qi W H ss),Io (.lst (ps.map Po4.D)),Jo (i:Int),Jo (j:Int),Jo (R:Int),Io (.lst Z),w10,w11,Io (.lst (ps.map Po4.D)),some (.ow (rows.map (Gm bx by'))),Io (.lst (rows.map (Gm bx by')))]) rfl ?_
 refine go (Pz rfl rfl (by rw[List.length_map];lia)) ?_
 refine go (sd':=[Io (.lst N),Jo (W:Int),Jo (H:Int),Jo (m:Int),Io (Qi W H ss),Io (.lst (ps.map Po4.D)),Jo (i:Int),Jo (j:Int),Jo (R:Int),Io (.lst Z),w10,w11,Io (.lst (ps.map Po4.D)),some (.ow (rows.map (Gm bx by')++[D.non]).reverse),Io (.lst (rows.map (Gm bx by')))]) ?_ ?_
 ·show(if(rows.map (Gm bx by')++[D.non]).length<=1000000 then M.ok (O.nx _) else .bad)=_
  rw[if_pos (by rw[List.length_append,List.length_map,List.length_singleton];lia)]
  rfl
 ·refine Z6 (B8 (a:=true) (b:=true) (Zk (x:=.lst (rows.map (Gm bx by'))) (y:=.lst (rows.map (Gm bx by'))) (Z2 (aC rfl (aC rfl (aC rfl (aC rfl (aC rfl (Law.a1 rfl)))))) fI rfl) rfl ?_) (Zk (x:=.lst (ps.map Po4.D)) (y:=.lst (ps.map Po4.D)) rfl rfl ?_))
  ·rw[Jd (by simp only[D.dep];lia),D.eq_refl]
  ·rw[Jd pdep,D.eq_refl]
end Law
namespace PySem.W.Fast
def tw12736560739455372490:=0
def tw12845571531086809250:=0
def tw7845338431195599375:=0
def tw14178249984021728487:=0
def tw8311158687742573956:=0
def tw10805449569749805789:=0
def tw13686067319442185595:=0
def tw10177245654166317374:=0
def tw10760101087739167564:=0
def tw1558202446405782380:=0
def tw15462964600364040900:=0
def tw13234181123131929523:=0
def tw11444192929773859469:=0
def tw18037647808806607448:=0
end PySem.W.Fast
open PySem PySem.W PyProof.Rows
-- LAST
set_option maxRecDepth 100000 in
set_option maxHeartbeats 0 in
theorem PySem.Challenge.cw_selfsight_k24_images_holds : PySem.Challenge.rw_selfsight_k24_images.Holds := by
  w_on; o_law; k_head; (case hw => w_witness2)
  k_fill
  refine Law.walk (l := PySem.Challenge.rw_selfsight_k24_images) rfl rfl Law.law_true (fun w h Y => PySem.W.kIn_of Y) ?F
  case F =>
    intro w mg fa h KX G hmg
    refine' Law.all_mk KX G hmg ?t0 ?t1 ?t2 ?t3 ?t4 ?t5 ?t6 ?t7 ?t8 ?t9 ?t10 ?t11 ?t12 ?t13 ?t14 ?t15 ?t16 ?t17 ?t18 ?t19 ?t20 ?t21 ?t22 ?t23 ?t24 ?t25 ?t26 ?t27 ?t28 ?t29 ?t30 ?t31 ?t32 ?t33 ?t34 ?t35 ?t36 ?t37 ?t38 ?t39 ?t40 ?t41 ?t42 ?t43 ?t44 ?t45 ?t46 ?t47 ?t48 ?t49 ?t50 ?t51 ?t52 ?t53 ?t54 ?t55 ?t56 ?t57 ?t58 ?t59 ?t60 ?t61 ?t62 ?t63 ?t64 ?t65 ?t66 ?t67 ?t68 ?t69 ?t70 ?t71 ?t72 ?t73 ?t74 ?t75 ?t76 ?t77 ?t78 ?t79 ?t80 ?t81 ?t82 ?t83 ?t84
    case t0 | t1 | t2 | t3 | t4 | t5 | t6 | t7 | t8 | t9 | t10 | t11 | t12 | t13 | t14 | t15 | t16 | t17 | t18 | t19 | t20 | t21 | t22 | t23 | t24 | t25 | t26 | t27 | t28 | t29 | t30 | t31 | t32 | t33 | t34 | t35 | t36 => refine' DL.dm_mk KX G ?a ?l ?c ?k; (case a | l | c | k => k_is)
    case t37 | t38 => k_is
    case t39 | t40 | t41 | t42 | t43 | t44 | t45 | t46 | t47 => refine' DL.mm_mk ?a ?n ?l ?c ?k; (case a | n | l | c | k => k_is)
    case t48 | t49 | t50 | t51 | t52 | t53 | t54 | t55 | t56 | t57 | t58 | t59 | t60 | t61 | t62 | t63 | t64 | t65 | t66 | t67 | t68 | t69 | t70 | t71 | t72 | t73 | t74 | t75 | t76 | t77 | t78 | t79 | t80 | t81 | t82 | t83 => k_is
    case t84 => kernel_rfl

