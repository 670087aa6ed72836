import PyProof.Rows.All
import Wide.All
import OpenK.AllK
import Wide.FinOn
import Lean
import PyProof.EqAt
import PyProof.EqKinds
import PyProof.TupleCall
import PyProof.NeKinds
import PyProof.NsDelKeeps
import PyProof.ExcArgs
import PyProof.ExcAttrAll.ValueError
import PyProof.Rows.SortRunsK
import PyProof.CompUse
import PyProof.DictFindH
import PyProof.Walk
import PyProof.DictWalks
import PySem.Challenge.RW_selfsight_k31_whole_seen_by_the_other
set_option Elab.async false
set_option linter.all false
set_option maxRecDepth 100000
namespace L2
open PySem PySem.Spec PyProof.Rows
abbrev Key:=Sum Int Str
def keyIs:Key->Value->Bool
 |.inl k,v=>Value.isInt k v
 |.inr x,v=>Value.isStrOf x v
def keyH (w:World):Key->Int
 |.inl k=>hashInt k
 |.inr x=>hashStr w x
theorem keyIs_shape:∀{k:Key} {v:Value},keyIs k v=true->(∃i t,k=Sum.inl i/\v=Value.int i t)\/(∃x t,k=Sum.inr x/\v=Value.str x t)
 |.inl i,v,h=>by
  obtain⟨t,e⟩:=Value.isInt_shape (k:=i) (v:=v) h
  exact .inl ⟨i,t,rfl,e⟩
 |.inr x,v,h=>by
  obtain⟨t,e⟩:=Value.isStrOf_shape (x:=x) (v:=v) h
  exact .inr ⟨x,t,rfl,e⟩
theorem keyIs_int (i:Int)(t:Tok):keyIs (.inl i) (.int i t)=true:=by simp[keyIs,Value.isInt]
theorem keyIs_str (x:Str)(t:Tok):keyIs (.inr x) (.str x t)=true:=by simp[keyIs,Value.isStrOf]
theorem key_ll (a b:Int):decide ((Sum.inl a:Key)=Sum.inl b)=(a==b):=by
 by_cases e:a=b
 ·subst e;simp
 ·have h:¬(Sum.inl a:Key)=Sum.inl b:=fun q=>e (Sum.inl.inj q)
  rw[decide_eq_false h]
  exact(beq_eq_false_iff_ne.mpr e).symm
theorem key_rr (a b:Str):decide ((Sum.inr a:Key)=Sum.inr b)=decide (a=b):=by
 by_cases e:a=b
 ·subst e;simp
 ·have h:¬(Sum.inr a:Key)=Sum.inr b:=fun q=>e (Sum.inr.inj q)
  rw[decide_eq_false h,decide_eq_false e]
theorem key_lr (a:Int)(b:Str):decide ((Sum.inl a:Key)=Sum.inr b)=false:=decide_eq_false (fun q=>nomatch q)
theorem key_rl (a:Str)(b:Int):decide ((Sum.inr a:Key)=Sum.inl b)=false:=decide_eq_false (fun q=>nomatch q)
def mixKind (prog:Program)(w:World):PySem.KeyKind prog w Key where
 is:=keyIs
 hash:=keyH w
 inj:=fun v a b ha hb=>by
  rcases keyIs_shape ha with⟨i,t,rfl,rfl⟩|⟨x,t,rfl,rfl⟩
  ·rcases keyIs_shape hb with⟨j,u,rfl,e⟩|⟨y,u,rfl,e⟩
   ·injection e with e1 _;rw[e1]
   ·exact nomatch e
  ·rcases keyIs_shape hb with⟨j,u,rfl,e⟩|⟨y,u,rfl,e⟩
   ·exact nomatch e
   ·injection e with e1 _;rw[e1]
 byValue:=fun k v h=>by
  rcases keyIs_shape h with⟨i,t,rfl,rfl⟩|⟨x,t,rfl,rfl⟩<;>rfl
 pyHash:=fun hv h=>by
  rcases keyIs_shape hv with⟨i,t,rfl,rfl⟩|⟨x,t,rfl,rfl⟩
  ·exact wpAny_pyHash_int h
  ·exact wpAny_pyHash_str h
 eqBool:=fun hu hv h=>by
  rcases keyIs_shape hu with⟨i,t,rfl,rfl⟩|⟨x,t,rfl,rfl⟩
  ·rcases keyIs_shape hv with⟨j,u,rfl,rfl⟩|⟨y,u,rfl,rfl⟩
   ·rw[key_ll] at h;exact wpAny_eqBool_int h
   ·rw[key_lr] at h;exact SeqAt.EqAt.int_str i t y u _ _ _ _ h
  ·rcases keyIs_shape hv with⟨j,u,rfl,rfl⟩|⟨y,u,rfl,rfl⟩
   ·rw[key_rl] at h;exact SeqAt.EqAt.str_int x t j u _ _ _ _ h
   ·rw[key_rr] at h;exact wpAny_eqBool_str h
 «strs»:=fun k x t v h=>by
  rcases keyIs_shape h with⟨i,u,rfl,e⟩|⟨y,u,rfl,e⟩
  ·exact nomatch e
  ·injection e with e1 _
   subst e1
   cases v<;>rfl
theorem mixKind_int (prog:Program)(w:World)(i:Int)(t:Tok):(mixKind prog w).is (.inl i) (.int i t)=true:=keyIs_int i t
theorem mixKind_str (prog:Program)(w:World)(x:Str)(t:Tok):(mixKind prog w).is (.inr x) (.str x t)=true:=keyIs_str x t
end L2
namespace L2
open PySem PySem.Spec PyProof.Rows
inductive V where
 |non|bl (b:Bool)|int (i:Int)|str (x:Str)|byt (b:Array UInt8)|flt (b:UInt64)|ref (a:Addr)|ty (n:String)
 deriving DecidableEq
def RelV:V->Value->Prop
 |.non,u=>u=Value.none
 |.bl b,u=>u=Value.bool b
 |.int i,u=>∃t,u=Value.int i t
 |.str x,u=>∃t,u=Value.str x t
 |.byt b,u=>∃t,u=Value.bytes b t
 |.flt b,u=>∃t,u=Value.float b t
 |.ref a,u=>u=Value.ref a
 |.ty n,u=>u=Value.type n
abbrev Vals:List V->List Value->Prop:=Paired RelV
theorem Vals.length {xs:List V}{us:List Value}(r:Vals xs us):xs.length=us.length:=Paired.length r
theorem Vals.get:∀{xs:List V} {us:List Value} {i:Nat} {x:V},Vals xs us->xs[i]?=some x->∃u,us[i]?=some u/\RelV x u
 |_,_,_,_,.nil,e=>by simp at e
 |_,_,0,_,.cons r _,e=>by simp at e;subst e;exact⟨_,rfl,r⟩
 |_,_,i+1,x,.cons _ t,e=>by
  obtain⟨u,h1,h2⟩:=Vals.get (i:=i) (x:=x) t (by simpa using e)
  exact⟨u,by simpa using h1,h2⟩
theorem Vals.set {x:V}{u:Value}(r:RelV x u):∀{xs:List V} {us:List Value} (i:Nat),Vals xs us->Vals (xs.set i x) (us.set i u)
 |_,_,_,.nil=>.nil
 |_,_,0,.cons _ t=>.cons r t
 |_,_,i+1,.cons q t=>.cons q (Vals.set r i t)
theorem Vals.append:∀{xs ys:List V} {us ws:List Value},Vals xs us->Vals ys ws->Vals (xs++ys) (us++ws)
 |_,_,_,_,.nil,s=>s
 |_,_,_,_,.cons r t,s=>.cons r (Vals.append t s)
theorem Vals.take:∀{xs:List V} {us:List Value} (n:Nat),Vals xs us->Vals (xs.take n) (us.take n)
 |_,_,0,_=>.nil
 |_,_,_+1,.nil=>.nil
 |_,_,n+1,.cons r t=>.cons r (Vals.take n t)
theorem Vals.drop:∀{xs:List V} {us:List Value} (n:Nat),Vals xs us->Vals (xs.drop n) (us.drop n)
 |_,_,0,r=>r
 |_,_,_+1,.nil=>.nil
 |_,_,n+1,.cons _ t=>Vals.drop n t
theorem Vals.none_of:∀{xs:List V} {us:List Value} {i:Nat},Vals xs us->xs[i]?=none->us[i]?=none:=fun {xs us i} r e=>by
 have h1:=r.length
 have h2:xs.length<=i:=List.getElem?_eq_none_iff.mp e
 exact List.getElem?_eq_none_iff.mpr (by omega)
def RelO:Option V->Option Value->Prop
 |some v,some u=>RelV v u
 |none,none=>True
 |_,_=>False
def KV {κ:Type}:List (κ×V)->List (κ×Value)->Prop:=Paired fun(p:κ×V) (q:κ×Value)=>p.1=q.1/\RelV p.2 q.2
def kV:Key->V
 |.inl i=>.int i
 |.inr x=>.str x
inductive HO where
 |lst (xs:List V)
 |tup (xs:List V)
 |dK (kvs:List (Key×V))|dT (kvs:List (List Key×V))
 |set (S:Int->Bool) (n:Nat)
 |ins (C dx:Addr) (fs:List (Str×V))
 |own (x:Addr)
 |xd (fs:List (Str×V))
 |met (f x:Addr)
 |rng (lo hi:Int)
 |frz (o:Obj) (u:HO)
 |tbl (l c:Value) (q:Str)
 |ext (φ:Heap->Prop)
abbrev Hp:=Addr->Option HO
def upd (H:Hp)(a:Addr)(o:HO):Hp:=fun b=>if b=a then some o else H b
theorem upd_same {H:Hp}{a:Addr}{o:HO}:upd H a o a=some o:=by unfold upd;rw[if_pos rfl]
theorem upd_ne {H:Hp}{a b:Addr}{o:HO}(h:b≠a):upd H a o b=H b:=by unfold upd;rw[if_neg h]
theorem ne_of {H:Hp}{a b:Addr}{o u:HO}(h:H a=some o)(h':H b=some u)(d:o≠u):a≠b:=by
 intro e;subst e;rw[h] at h';exact d (Option.some.inj h')
theorem ne_of_none {H:Hp}{a b:Addr}{o:HO}(h:H a=some o)(h':H b=none):a≠b:=by
 intro e;subst e;rw[h] at h';cases h'
section
variable (P:Program) (w:World)
def ObjOk (H:Hp)(h:Heap)(a:Addr):HO->Prop
 |.lst xs=>xs.length<=sizeLine/\∃(its:List Value) (n:Nat),Vals xs its/\h.get? a=some { cls:=.type "list", data:=.seq its.toArray n }
 |.tup xs=>xs.length<=sizeLine/\∃its:List Value,Vals xs its/\IsTup h a its.toArray
 |.dK kvs=>kvs.length<=sizeLine/\(a==sysModules)=false/\∃vs,KV kvs vs/\h.DictOf (mixKind P w) a vs
 |.dT kvs=>kvs.length<=sizeLine/\(a==sysModules)=false/\∃xs:List (List Key×Addr×Value),
   Paired (fun(p:List Key×V) (q:List Key×Addr×Value)=>p.1=q.1/\H q.2.1=some (.tup (p.1.map kV))/\RelV p.2 q.2.2) kvs xs /\
   ∃o es ep,h.get? a=some o/\o.ExactDict/\o.data=.dict es ep/\es.toList=xs.map (entryOfKey (tupleKind (mixKind P w)))/\(xs.map (·.1)).Nodup
 |.set S n=>h.SetOf (intKind P w) a S n
 |.ins C dx fs=>H dx=some (.own a)/\fs.length<=1000/\dx≠a/\h.get? a=some (PySem.W.instObj C dx) /\
   ∃mA,h.Ns1 dx mA/\(∀f,RelO (fs.lookup f) (mA f))/\PySem.Within mA (fs.map (·.1))
 |.own _=>∃o,h.get? a=some o
 |.xd fs=>∃mA,h.Ns1 a mA/\∀f,RelO (fs.lookup f) (mA f)
 |.rng lo hi=>∃t u v,h.get? a=some { cls:=.type "range", data:=.fields #[.int lo t,.int hi u,.int 1 v] }
 |.frz o u=>h.get? a=some o/\ObjOk H h a u
 |.tbl l c q=>∃ps:Array Value,h.get? a=some { cls:=.none,data:=.fields ps }/\(ps=#[]\/∃(b:Addr) (ob:Obj) (vs:Array Value) (t:Tok),ps=#[l,c,.ref b]/\H b=some (.frz ob (.own 0))/\ob.data=.fields vs/\vs[1]?=some (.str q t))
 |.met f x=>h.get? a=some (PySem.W.methodObj (.ref f) (.ref x))
 |.ext φ=>φ h/\(∃o,h.get? a=some o)/\∀h1 h2:Heap,φ h1->(∀o,h1.get? a=some o->h2.get? a=some o)->φ h2
def HOk (H:Hp)(h:Heap):Prop:=∀a o,H a=some o->ObjOk P w H h a o
end
section
variable {P:Program} {w:World} {H H':Hp} {h h':Heap} {a:Addr} {o:HO}
theorem ObjOk.lt (x:ObjOk P w H h a o):a<h.objs.size:=by
 cases o with
 |lst xs=>obtain⟨_,_,_,_,e⟩:=x;exact Heap.lt_size e
 |tup xs=>obtain⟨_,_,_,p⟩:=x;exact p.lt
 |dK kvs=>obtain⟨_,_,_,_,o,_,_,e,_⟩:=x;exact Heap.lt_size e
 |dT kvs=>obtain⟨_,_,_,_,o,_,_,e,_⟩:=x;exact Heap.lt_size e
 |set S n=>obtain⟨o,_,_,_,e,_⟩:=x;exact Heap.lt_size e
 |ins C dx fs=>obtain⟨_,_,_,e,_⟩:=x;exact Heap.lt_size e
 |own y=>obtain⟨_,e⟩:=x;exact Heap.lt_size e
 |xd fs=>obtain⟨_,⟨_,_,_,e,_⟩,_⟩:=x;exact Heap.lt_size e
 |rng lo hi=>obtain⟨_,_,_,e⟩:=x;exact Heap.lt_size e
 |frz ob u=>obtain⟨e,_⟩:=x;exact Heap.lt_size e
 |tbl l c q=>obtain⟨_,e,_⟩:=x;exact Heap.lt_size e
 |met f y=>exact Heap.lt_size (show h.get? a=some _ from x)
 |ext φ=>obtain⟨_,⟨_,e⟩,_⟩:=x;exact Heap.lt_size e
theorem Paired.mapP {α β:Type}{F G:α->β->Prop}:∀{l₁:List α} {l₂:List β},Paired F l₁ l₂->(∀a b,F a b->G a b)->Paired G l₁ l₂
 |_,_,.nil,_=>.nil
 |_,_,.cons r t,f=>.cons (f _ _ r) (Paired.mapP t f)
theorem ObjOk.stay (x:ObjOk P w H h a o)(k:∀b u,(b=a\/H b=some (.own a))->h.get? b=some u->h'.get? b=some u)(ho:∀b,H b=some (.own a)->H' b=some (.own a))(ht:∀b xs,H b=some (.tup xs)->H' b=some (.tup xs))(hz:∀b o u,H b=some (.frz o u)->H' b=some (.frz o u)):ObjOk P w H' h' a o:=by
 induction o with
 |lst xs=>obtain⟨z,its,n,r,e⟩:=x;exact⟨z,its,n,r,k _ _ (.inl rfl) e⟩
 |tup xs=>obtain⟨z,its,r,ob,e,c⟩:=x;exact⟨z,its,r,ob,k _ _ (.inl rfl) e,c⟩
 |dK kvs=>obtain⟨z,y,vs,r,ob,es,ep,e,c⟩:=x;exact⟨z,y,vs,r,ob,es,ep,k _ _ (.inl rfl) e,c⟩
 |dT kvs =>
  obtain⟨z,y,xs,r,ob,es,ep,e,c⟩:=x
  exact⟨z,y,xs,Paired.mapP r fun p q z=>⟨z.1,ht _ _ z.2.1,z.2.2⟩,ob,es,ep,k _ _ (.inl rfl) e,c⟩
 |set S n=>obtain⟨ob,es,ep,t,e,c⟩:=x;exact⟨ob,es,ep,t,k _ _ (.inl rfl) e,c⟩
 |ins C dx fs =>
  obtain⟨d,z,ne,e,mA,⟨od,es,ep,e2,c⟩,r⟩:=x
  exact⟨ho _ d,z,ne,k _ _ (.inl rfl) e,mA,⟨od,es,ep,k _ _ (.inr d) e2,c⟩,r⟩
 |own y=>obtain⟨ob,e⟩:=x;exact⟨ob,k _ _ (.inl rfl) e⟩
 |xd fs=>obtain⟨mA,⟨od,es,ep,e,c⟩,r⟩:=x;exact⟨mA,⟨od,es,ep,k _ _ (.inl rfl) e,c⟩,r⟩
 |rng lo hi=>obtain⟨t,u,v,e⟩:=x;exact⟨t,u,v,k _ _ (.inl rfl) e⟩
 |frz ob u ih=>obtain⟨e,q⟩:=x;exact⟨k _ _ (.inl rfl) e,ih q⟩
 |tbl l c q =>
  obtain⟨ps,e,r⟩:=x
  refine⟨ps,k a _ (.inl rfl) e,?_⟩
  rcases r with r|⟨b,ob,vs,t,r1,r2,r3⟩
  ·exact .inl r
  ·exact .inr ⟨b,ob,vs,t,r1,hz _ _ _ r2,r3⟩
 |met f y =>
  have e:h.get? a=some (PySem.W.methodObj (.ref f) (.ref y)):=x
  show h'.get? a=some (PySem.W.methodObj (.ref f) (.ref y))
  exact k a _ (.inl rfl) e
 |ext φ=>obtain⟨p,⟨o,e⟩,st⟩:=x;exact⟨st _ _ p fun o q=>k _ _ (.inl rfl) q,⟨o,k _ _ (.inl rfl) e⟩,st⟩
theorem HOk.lt (x:HOk P w H h)(e:H a=some o):a<h.objs.size:=(x a o e).lt
theorem HOk.fresh (x:HOk P w H h)(e:h.objs.size<=a):H a=none:=by
 cases q:H a with
 |none=>rfl
 |some u=>exact absurd (Nat.lt_of_lt_of_le (x.lt q) e) (Nat.lt_irrefl _)
theorem HOk.kept (x:HOk P w H h)(k:∀b u,h.get? b=some u->h'.get? b=some u):HOk P w H h':=fun a o e =>
 (x a o e).stay (fun b u _ q=>k b u q) (fun _ q=>q) (fun _ _ q=>q) fun _ _ _ q=>q
theorem HOk.laid (x:HOk P w H h)(k:∀b u,h.get? b=some u->h'.get? b=some u)(hp:h.objs.size<=a)(new:ObjOk P w (upd H a o) h' a o):HOk P w (upd H a o) h':=fun b u e=>by
 have hn:=x.fresh hp
 by_cases hb:b=a
 ·subst hb;rw[upd_same] at e;cases e;exact new
 ·rw[upd_ne hb] at e
  exact(x b u e).stay (fun c v _ q=>k c v q) (fun c q=>by rw[upd_ne (ne_of_none q hn)];exact q) (fun c xs q=>by rw[upd_ne (ne_of_none q hn)];exact q) fun c _ _ q=>by rw[upd_ne (ne_of_none q hn)];exact q
end
def Rd (H:Hp)(a:Addr)(u:HO):Prop:=H a=some u\/∃o,H a=some (.frz o u)
theorem Rd.of {H:Hp}{a:Addr}{u:HO}(h:H a=some u):Rd H a u:=.inl h
theorem Rd.ok {P:Program}{w:World}{H:Hp}{h:Heap}{a:Addr}{u:HO}(r:Rd H a u)(x:HOk P w H h):ObjOk P w H h a u:=by
 rcases r with r|⟨o,r⟩
 ·exact x a u r
 ·obtain⟨_,q⟩:=x a _ r
  exact q
def Mut:Option HO->Prop
 |some (.lst _)=>True
 |some (.dK _)=>True
 |some (.dT _)=>True
 |some (.set _ _)=>True
 |some (.ins _ _ _)=>True
 |some (.ext _)=>True
 |_=>False
section
variable {P:Program} {w:World} {H:Hp} {h h':Heap} {x e:Addr} {o':HO}
theorem HOk.write (ok:HOk P w H h)(mu:Mut (H x))(he:e=x\/H e=some (.own x))(k:∀b u,b≠e->h.get? b=some u->h'.get? b=some u)(heo:∃u,h'.get? e=some u)(new:ObjOk P w (upd H x o') h' x o'):HOk P w (upd H x o') h':=fun b u q=>by
 have nown:∀c y,H c=some (.own y)->c≠x:=fun c y r z=>by subst z;rw[r] at mu;exact mu
 have ntup:∀c xs,H c=some (.tup xs)->c≠x:=fun c xs r z=>by subst z;rw[r] at mu;exact mu
 have nfrz:∀c o u,H c=some (.frz o u)->c≠x:=fun c o u r z=>by subst z;rw[r] at mu;exact mu
 by_cases hb:b=x
 ·subst hb;rw[upd_same] at q;cases q;exact new
 ·rw[upd_ne hb] at q
  by_cases hbe:b=e
  ·have q':H b=some (.own x):=by
    rcases he with z|z
    ·exact absurd (hbe.trans z) hb
    ·rw[hbe];exact z
   rw[q] at q';cases q'
   obtain⟨v,hv⟩:=heo
   exact⟨v,by rw[hbe];exact hv⟩
  ·refine(ok b u q).stay (fun c v hc r=>k c v ?_ r) (fun c r=>by rw[upd_ne (nown c b r)];exact r) (fun c xs r=>by rw[upd_ne (ntup c xs r)];exact r) fun c o u r=>by rw[upd_ne (nfrz c o u r)];exact r
   rcases hc with rfl|hc
   ·exact hbe
   ·rintro rfl
    rcases he with z|z
    ·exact nown c b hc z
    ·rw[hc] at z;cases z;exact hb rfl
end
structure Un (fs ex:List Addr) (H H':Hp) (h h':Heap):Prop where
 keep:∀b o,h.get? b=some o->H b=none->b ∉ fs->b ∉ ex->h'.get? b=some o
 slot:∀b o,h.get? b=some o->H b=none->b∈fs->b ∉ ex->∃sl,h'.get? b=some { o with slots:=sl }
 free:∀b o,h.get? b=some o->H b=none->b ∉ ex->H' b=none
 there:∀b o,h.get? b=some o->b ∉ ex->∃o',h'.get? b=some o'
 tups:∀b xs,H b=some (.tup xs)->H' b=some (.tup xs)
 frzs:∀b o u,H b=some (.frz o u)->H' b=some (.frz o u)
 tbls:∀b l c q,H b=some (.tbl l c q)->H' b=some (.tbl l c q)
section
variable {fs fs' ex ex':List Addr} {H H1 H2:Hp} {h h1 h2 h':Heap} {a x e:Addr} {o:HO}
theorem Un.any (u:Un fs ex H H1 h h1){b:Addr}{ob:Obj}(q:h.get? b=some ob)(n:H b=none)(hx:b ∉ ex):∃sl,h1.get? b=some { ob with slots:=sl }:=by
 by_cases hb:b∈fs
 ·exact u.slot b ob q n hb hx
 ·exact⟨ob.slots,u.keep b ob q n hb hx⟩
theorem Un.trans (a:Un fs ex H H1 h h1)(b:Un fs ex H1 H2 h1 h2):Un fs ex H H2 h h2 where
 keep:=fun c ob q n hc hx=>b.keep c ob (a.keep c ob q n hc hx) (a.free c ob q n hx) hc hx
 slot:=fun c ob q n hc hx=>by
  obtain⟨sl,e1⟩:=a.slot c ob q n hc hx
  obtain⟨sl',e2⟩:=b.slot c _ e1 (a.free c ob q n hx) hc hx
  exact⟨sl',e2⟩
 free:=fun c ob q n hx=>by
  obtain⟨o',e1⟩:=a.there c ob q hx
  exact b.free c o' e1 (a.free c ob q n hx) hx
 there:=fun c ob q hx=>by
  obtain⟨o',e1⟩:=a.there c ob q hx
  exact b.there c o' e1 hx
 tups:=fun c xs q=>b.tups c xs (a.tups c xs q)
 frzs:=fun c ob xs q=>b.frzs c ob xs (a.frzs c ob xs q)
 tbls:=fun c l c' q' q=>b.tbls c l c' q' (a.tbls c l c' q' q)
theorem Un.kept (k:∀b u,h.get? b=some u->h'.get? b=some u):Un fs ex H H h h' :=
 ⟨fun b ob q _ _ _=>k b ob q,fun b ob q _ _ _=>⟨ob.slots,k b ob q⟩,fun _ _ _ n _=>n,fun b ob q _=>⟨ob,k b ob q⟩,fun _ _ q=>q,fun _ _ _ q=>q,fun _ _ _ _ q=>q⟩
theorem Un.refl:Un fs ex H H h h:=Un.kept fun _ _ q=>q
theorem Un.laid (k:∀b u,h.get? b=some u->h'.get? b=some u)(hp:h.objs.size<=a)(hn:H a=none):Un fs ex H (upd H a o) h h' where
 keep:=fun b u q _ _ _=>k b u q
 slot:=fun b u q _ _ _=>⟨u.slots,k b u q⟩
 free:=fun b u q n _=>by rw[upd_ne (Nat.ne_of_lt (Nat.lt_of_lt_of_le (Heap.lt_size q) hp))];exact n
 there:=fun b u q _=>⟨u,k b u q⟩
 tups:=fun b xs q=>by rw[upd_ne (ne_of_none q hn)];exact q
 frzs:=fun b u xs q=>by rw[upd_ne (ne_of_none q hn)];exact q
 tbls:=fun b l c r q=>by rw[upd_ne (ne_of_none q hn)];exact q
theorem Un.write (mu:Mut (H x))(he:e=x\/H e=some (.own x))(k:∀b u,b≠e->h.get? b=some u->h'.get? b=some u)(heo:∃u,h'.get? e=some u):Un fs ex H (upd H x o) h h':=by
 have hx:∀b,H b=none->b≠x:=fun b n z=>by subst z;rw[n] at mu;exact mu
 have hb:∀b,H b=none->b≠e:=fun b n z=>by
  subst z
  rcases he with r|r
  ·exact hx b n r
  ·rw[n] at r;cases r
 have hm:∀b u,H b=some u->¬Mut (some u)->b≠x:=fun b u q nm z=>by subst z;rw[q] at mu;exact nm mu
 refine⟨fun b u q n _ _=>k b u (hb b n) q,fun b u q n _ _=>⟨u.slots,k b u (hb b n) q⟩,fun b u q n _=>by rw[upd_ne (hx b n)];exact n,fun b u q _=>?_,
  fun b xs q=>by rw[upd_ne (hm b _ q fun z=>z)];exact q,fun b u xs q=>by rw[upd_ne (hm b _ q fun z=>z)];exact q,fun b l c r q=>by rw[upd_ne (hm b _ q fun z=>z)];exact q⟩
 by_cases hbe:b=e
 ·subst hbe;exact heo
 ·exact⟨u,k b u hbe q⟩
theorem Un.mono (u:Un fs ex H H1 h h1)(hs:∀b∈fs,b∈fs')(hx:∀b∈ex,b∈ex'):Un fs' ex' H H1 h h1 :=
 ⟨fun b ob q n hb he=>u.keep b ob q n (fun z=>hb (hs b z)) fun z=>he (hx b z),fun _ _ q n _ he=>u.any q n fun z=>he (hx _ z),fun b ob q n he=>u.free b ob q n fun z=>he (hx b z),fun b ob q he=>u.there b ob q fun z=>he (hx b z),u.tups,u.frzs,u.tbls⟩
end
def trk (h:Heap)(H:Hp):List Addr:=(List.range h.objs.size).filter fun a=>(H a).isSome
def hidT (h:Heap)(H:Hp):Heap:=PySem.W.hideAll h (trk h H)
theorem hidT_size (h:Heap)(H:Hp):(hidT h H).objs.size=h.objs.size:=PySem.W.hideAll_size _ _
theorem hidT_get {h:Heap}{H:Hp}{b:Addr}{o:Obj}(e:h.get? b=some o)(n:H b=none):(hidT h H).get? b=some o :=
 PySem.W.hideAll_get _ e fun hm=>by
  have q:(H b).isSome=true:=(List.mem_filter.mp hm).2
  rw[n] at q;simp at q
theorem of_hidT {h:Heap}{H:Hp}{b:Addr}{o:Obj}(e:(hidT h H).get? b=some o):h.get? b=some o/\H b=none:=by
 have e':h.get? b=some o:=PySem.W.of_hideAll (trk h H) e
 refine⟨e',?_⟩
 cases q:H b with
 |none=>rfl
 |some x =>
  have hm:b∈trk h H:=List.mem_filter.mpr ⟨List.mem_range.mpr (Heap.lt_size e'),by simp[q]⟩
  have z:(hidT h H).get? b=none:=PySem.W.hideAll_none (trk h H) hm
  rw[z] at e;cases e
def allNews (g h:Heap)(L:Addr):List (Addr×Obj):=(List.range h.objs.size).filterMap fun a=>if a=L\/(g.get? a).isSome=true then none else(h.get? a).map fun o=>(a,o)
def rest (g h:Heap)(L d:Addr):List (Addr×Obj):=(allNews g h L).filter fun p=>decide (p.1≠d)
end L2
namespace L2
open PySem PySem.Spec PyProof.Rows
structure Mod (K:PySem.W.Frag) (mg:Str->Option Value) (base:Heap):Prop where
 kin:K.In base
 glob:base.Ns mainGlobals mg
 blt:∃mb,base.Ns builtinsNs mb/\∀x:Str,x ≠ "__name__"->mb x=bootBuiltins x
 nolimit:base.NoLimit
structure Cx where
 prog:Program
 w:World
 K:PySem.W.Frag
 mg:Str->Option Value
 base:Heap
 A:Around
 N:List Str
 s₀:Shared
 H₀:Hp
 env:Env
 outer:List Env
 stack:List Env
 ex:List Addr
 fn:Str->Bool
 calm:Bool
 pn:List (Addr×Obj)
 xe:Value->Shared->Prop
def frs (l:List Env):List Addr:=l.filterMap (·.frame)
abbrev Cx.fs (X:Cx):List Addr:=frs X.outer
def Vis (sc:Scope)(x:Str):Prop:=sc.names.lookup x=some .local\/sc.names.lookup x=some .cell\/sc.names.lookup x=some .free
def Loc (sc:Scope)(x:Str):Prop:=sc.names.lookup x=some .local\/sc.names.lookup x=some .cell
def Look (env:Env)(h:Heap)(m:Str->Option Value)(x:Str)(u:Value):Prop :=
 (env.kindOf x=some .local/\m x=some u)\/((env.kindOf x=some .cell\/env.kindOf x=some .free)/\∃c,env.cells.lookup x=some c/\h.IsCell c (some u))
structure Cx.Ok (X:Cx):Prop where
 mod:Mod X.K X.mg X.base
 kind:X.env.scope.kind=.function
 glob:X.env.globals=mainGlobals
 blt:X.env.builtins=builtinsNs
 above:X.s₀.heap.objs.size<=X.env.locals
 inj:∀x y c,X.env.cells.lookup x=some c->X.env.cells.lookup y=some c->x=y
 has:∀x,(X.env.kindOf x=some .cell\/X.env.kindOf x=some .free)->∃c,X.env.cells.lookup x=some c
 cab:∀x c,X.fn x=true->X.env.cells.lookup x=some c->X.s₀.heap.objs.size<=c
 hd:X.calm=true->X.A.handled=none
 frames:X.A.frames=some X.stack
 stk:X.stack=X.outer\/(X.stack=X.env::X.outer/\X.env.frame=some X.env.locals)
 exf:∀b∈X.ex,b≠X.env.locals/\∀x c,X.env.cells.lookup x=some c->c≠b
 bs:∀b o,X.base.get? b=some o->X.s₀.heap.get? b=some o/\X.H₀ b=none
 bsz:X.base.objs.size<=X.s₀.heap.objs.size
 noex:∀b o,X.base.get? b=some o->b ∉ X.ex
 exfs:∀b∈X.ex,b ∉ X.fs
 funs:X.s₀.heap.FunFrames X.base X.outer
 frf:∀b∈X.fs,X.H₀ b=none
structure Inv (X:Cx) (pins:List (Addr×Obj)) (σ:List (Option V)) (H:Hp) (s:Shared):Prop where
 ok:X.Ok
 os:s.os=X.s₀.os
 bare:AllBare s.gens
 base:Un X.fs X.ex X.H₀ H X.s₀.heap s.heap
 loc:∃m,s.heap.Ns X.env.locals m/\∀(i:Nat) (x:Str) (v:V),X.N[i]?=some x->σ[i]?=some (some v)->Vis X.env.scope x->∃u,RelV v u/\Look X.env s.heap m x u
 cell:∀x c,X.env.cells.lookup x=some c->∃v,s.heap.IsCell c v
 free:H X.env.locals=none
 freeC:∀x c,X.env.cells.lookup x=some c->H c=none
 pin:∀p∈X.pn++pins,s.heap.get? p.1=some p.2/\H p.1=none/\p.1≠X.env.locals/\p.1 ∉ X.fs/\∀v,p.2.data≠.cell v
 hok:HOk X.prog X.w H s.heap
 len:σ.length=X.N.length
section
variable {X:Cx} {pins:List (Addr×Obj)} {σ:List (Option V)} {H H':Hp} {s:Shared} {h':Heap}
theorem Cx.Ok.nofr (ok:X.Ok){b:Addr}{o:Obj}(e:X.base.get? b=some o):b ∉ X.fs:=fun hb=>by
 have:=(ok.funs.mem hb).1
 rw[e] at this;cases this
theorem Inv.bs (I:Inv X pins σ H s):∀b o,X.base.get? b=some o->s.heap.get? b=some o/\H b=none:=fun b o e =>
 ⟨I.base.keep b o (I.ok.bs b o e).1 (I.ok.bs b o e).2 (I.ok.nofr e) (I.ok.noex b o e),I.base.free b o (I.ok.bs b o e).1 (I.ok.bs b o e).2 (I.ok.noex b o e)⟩
theorem Inv.bk (I:Inv X pins σ H s):∀b o,X.base.get? b=some o->s.heap.get? b=some o:=fun b o e=>(I.bs b o e).1
theorem Inv.mod (I:Inv X pins σ H s):Mod X.K X.mg X.base:=I.ok.mod
theorem Inv.kIn (I:Inv X pins σ H s):X.K.In s.heap:=I.ok.mod.kin.keeps I.bk
theorem Inv.nolimit (I:Inv X pins σ H s):s.heap.NoLimit:=I.ok.mod.nolimit.keeps I.bk
theorem Inv.fr (I:Inv X pins σ H s):∃m,Fr X.base X.env.locals s.heap m :=
 let ⟨m,hn,_⟩:=I.loc
 ⟨m,hn,I.bk,Nat.le_trans I.ok.bsz I.ok.above⟩
theorem Inv.lt (I:Inv X pins σ H s):X.env.locals<s.heap.objs.size:=let ⟨_,hn,_⟩:=I.loc;hn.lt
theorem Inv.sz (I:Inv X pins σ H s):X.s₀.heap.objs.size<=s.heap.objs.size:=Nat.le_trans I.ok.above (Nat.le_of_lt I.lt)
theorem Inv.nofs (I:Inv X pins σ H s){a:Addr}(h:s.heap.objs.size<=a):a ∉ X.fs:=fun hb=>by
 obtain⟨_,o,ho,_⟩:=I.ok.funs.mem hb
 exact absurd (Nat.lt_of_lt_of_le (Heap.lt_size ho) (Nat.le_trans I.sz h)) (Nat.lt_irrefl _)
theorem Inv.cne (I:Inv X pins σ H s):∀x c,X.env.cells.lookup x=some c->c≠X.env.locals:=fun x c e z=>by
 obtain⟨v,o,ho,hd⟩:=I.cell x c e
 obtain⟨m,⟨o',es,ep,ho',hd',_⟩,_⟩:=I.loc
 rw[z,ho'] at ho;cases ho;rw[hd'] at hd;cases hd
theorem Inv.funs (I:Inv X pins σ H s):s.heap.FunFrames X.base X.outer:=by
 have all:∀(l:List Env),(∀b∈frs l,b∈X.fs)->X.s₀.heap.FunFrames X.base l->s.heap.FunFrames X.base l:=by
  intro l
  induction l with
  |nil=>intro _ _;trivial
  |cons env r ih =>
   intro hs hl
   obtain⟨hk,⟨L,o,hf,hn,ho,hd⟩,hr⟩:=hl
   have hL:L∈X.fs:=hs L (by unfold frs;rw[List.filterMap_cons,hf];exact List.mem_cons_self)
   obtain⟨sl,e⟩:=I.base.slot L o ho (I.ok.frf L hL) hL fun z=>I.ok.exfs L z hL
   exact⟨hk,⟨L,_,hf,hn,e,hd⟩,ih (fun b hb=>hs b (by unfold frs;rw[List.filterMap_cons,hf];exact List.mem_cons_of_mem _ hb)) hr⟩
 exact all X.outer (fun _ hb=>hb) I.ok.funs
theorem Inv.stack (I:Inv X pins σ H s):s.heap.FunFrames X.base X.stack:=by
 rcases I.ok.stk with e|⟨e,hf⟩
 ·rw[e];exact I.funs
 ·rw[e]
  obtain⟨m,hn,_⟩:=I.loc
  refine .cons (by rw[I.ok.kind];decide) hf hn ?_ I.funs
  exact Heap.get?_none_of_le (Nat.le_trans I.ok.bsz I.ok.above)
theorem Inv.stkSub (I:Inv X pins σ H s):∀b∈frs X.stack,b∈X.env.locals::X.fs:=fun b hb=>by
 rcases I.ok.stk with e|⟨e,hf⟩
 ·rw[e] at hb;exact List.mem_cons_of_mem _ hb
 ·rw[e] at hb
  unfold frs at hb
  rw[List.filterMap_cons,hf] at hb
  exact hb
theorem Inv.stkFree (I:Inv X pins σ H s):∀b∈frs X.stack,H b=none:=fun b hb=>by
 rcases List.mem_cons.mp (I.stkSub b hb) with e|hb
 ·rw[e];exact I.free
 ·obtain⟨_,o,ho,_⟩:=I.ok.funs.mem hb
  exact I.base.free b o ho (I.ok.frf b hb) fun z=>I.ok.exfs b z hb
theorem Inv.step {g':Array GenState}{t':Nat}{d':Drawn}{ch:List Addr}(I:Inv X pins σ H s)(hch:∀b∈ch,(b∈X.ex\/X.s₀.heap.objs.size<=b)/\b≠X.env.locals/\(∀x c,X.env.cells.lookup x=some c->c≠b)/\∀p∈X.pn++pins,p.1≠b)(keep:∀b o,b≠X.env.locals->b ∉ X.fs->b ∉ ch->s.heap.get? b=some o->H b=none->h'.get? b=some o)(slot:∀b o,b≠X.env.locals->b∈X.fs->b ∉ ch->s.heap.get? b=some o->H b=none->∃sl,h'.get? b=some { o with slots:=sl })(free:∀b o,b ∉ ch->s.heap.get? b=some o->H b=none->H' b=none)(there:∀b o,b ∉ ch->s.heap.get? b=some o->∃o',h'.get? b=some o')(tups:∀b xs,H b=some (.tup xs)->H' b=some (.tup xs))(frzs:∀b o u,H b=some (.frz o u)->H' b=some (.frz o u))(tbls:∀b l c q,H b=some (.tbl l c q)->H' b=some (.tbl l c q))(ns:∀m,s.heap.Ns X.env.locals m->h'.Ns X.env.locals m)(hok:HOk X.prog X.w H' h')(hg:AllBare g') :
  Inv X pins σ H' { s with heap:=h',gens:=g',drawn:=d',toks:=t' }:=by
 have neL:∀b o,X.s₀.heap.get? b=some o->b≠X.env.locals:=fun b o e=>Nat.ne_of_lt (Nat.lt_of_lt_of_le (Heap.lt_size e) I.ok.above)
 have neC:∀b o,X.s₀.heap.get? b=some o->b ∉ X.ex->b ∉ ch:=fun b o e hx hb=>by
  rcases(hch b hb).1 with z|z
  ·exact hx z
  ·exact absurd (Nat.lt_of_lt_of_le (Heap.lt_size e) z) (Nat.lt_irrefl _)
 have cellK:∀x c,X.env.cells.lookup x=some c->∀v,s.heap.IsCell c v->h'.IsCell c v:=fun x c e v ⟨o,ho,hd⟩=>by
  have nch:c ∉ ch:=fun z=>(hch c z).2.2.1 x c e rfl
  by_cases hc:c∈X.fs
  ·obtain⟨sl,q⟩:=slot c o (I.cne x c e) hc nch ho (I.freeC x c e)
   exact⟨_,q,hd⟩
  ·exact⟨o,keep c o (I.cne x c e) hc nch ho (I.freeC x c e),hd⟩
 refine⟨I.ok,I.os,hg,⟨fun b o e n hb hx=>?_,fun b o e n hb hx=>?_,fun b o e n hx=>?_,fun b o e hx=>?_,fun b xs e=>tups b xs (I.base.tups b xs e),fun b o xs e=>frzs b o xs (I.base.frzs b o xs e),fun b l c q e=>tbls b l c q (I.base.tbls b l c q e)⟩,?_,fun x c e=>?_,?_,fun x c e=>?_,fun p hp=>?_,hok,I.len⟩
 ·exact keep b o (neL b o e) hb (neC b o e hx) (I.base.keep b o e n hb hx) (I.base.free b o e n hx)
 ·obtain⟨sl,e1⟩:=I.base.slot b o e n hb hx
  obtain⟨sl',e2⟩:=slot b _ (neL b o e) hb (neC b o e hx) e1 (I.base.free b o e n hx)
  exact⟨sl',e2⟩
 ·obtain⟨o',e1⟩:=I.base.there b o e hx
  exact free b o' (neC b o e hx) e1 (I.base.free b o e n hx)
 ·obtain⟨o',e1⟩:=I.base.there b o e hx
  exact there b o' (neC b o e hx) e1
 ·obtain⟨m,hn,hl⟩:=I.loc
  refine⟨m,ns m hn,fun i x v e1 e2 e3=>?_⟩
  obtain⟨u,r,l⟩:=hl i x v e1 e2 e3
  refine⟨u,r,?_⟩
  rcases l with l|⟨k,c,e,z⟩
  ·exact .inl l
  ·exact .inr ⟨k,c,e,cellK x c e _ z⟩
 ·obtain⟨v,z⟩:=I.cell x c e
  exact⟨v,cellK x c e v z⟩
 ·obtain⟨m,⟨o,_,_,ho,_⟩,_⟩:=I.loc
  exact free _ o (fun z=>(hch _ z).2.1 rfl) ho I.free
 ·obtain⟨v,o,ho,hd⟩:=I.cell x c e
  exact free c o (fun z=>(hch c z).2.2.1 x c e rfl) ho (I.freeC x c e)
 ·obtain⟨e,n,ne,nf,d⟩:=I.pin p hp
  have nch:p.1 ∉ ch:=fun z=>(hch p.1 z).2.2.2 p hp rfl
  exact⟨keep p.1 p.2 ne nf nch e n,free p.1 p.2 nch e n,ne,nf,d⟩
theorem Inv.un {t':Nat}(I:Inv X pins σ H s)(u:Un X.fs [] H H' s.heap h')(hok:HOk X.prog X.w H' h'):Inv X pins σ H' { s with heap:=h',toks:=t' }:=by
 obtain⟨m,⟨o,es,ep,ho,r⟩,_⟩:=id I.loc
 obtain⟨sl,hL⟩:=u.any ho I.free (by simp)
 exact I.step (g':=s.gens) (d':=s.drawn) (ch:=[]) (fun _ z=>nomatch z) (fun b o _ hb _ e n=>u.keep b o e n hb (by simp)) (fun b o _ hb _ e n=>u.slot b o e n hb (by simp)) (fun b o _ e n=>u.free b o e n (by simp)) (fun b o _ e=>u.there b o e (by simp)) u.tups u.frzs u.tbls (fun m' hm=>by
  obtain⟨o',es',ep',ho',r'⟩:=hm
  rw[ho] at ho';cases ho'
  exact⟨_,es',ep',hL,r'⟩) hok I.bare
theorem Inv.call {g':Array GenState}{t':Nat}{d':Drawn}{ch:List Addr}(I:Inv X pins σ H s)(u:Un (frs X.stack) ch H H' s.heap h')(hok:HOk X.prog X.w H' h')(hg:AllBare g')(hch:∀b∈ch,(b∈X.ex\/X.s₀.heap.objs.size<=b)/\b≠X.env.locals/\(∀x c,X.env.cells.lookup x=some c->c≠b)/\∀p∈X.pn++pins,p.1≠b) :
  Inv X pins σ H' { s with heap:=h',gens:=g',drawn:=d',toks:=t' }:=by
 obtain⟨m,⟨o,es,ep,ho,r⟩,_⟩:=id I.loc
 obtain⟨sl,hL⟩:=u.any ho I.free fun z=>(hch _ z).2.1 rfl
 exact I.step (ch:=ch) hch (fun b o hL hb hc e n=>u.keep b o e n (fun z=>(List.mem_cons.mp (I.stkSub b z)).elim hL hb) hc) (fun b o _ _ hc e n=>u.any e n hc) (fun b o hc e n=>u.free b o e n hc) (fun b o hc e=>u.there b o e hc) u.tups u.frzs u.tbls (fun m' hm=>by
  obtain⟨o',es',ep',ho',r'⟩:=hm
  rw[ho] at ho';cases ho'
  exact⟨_,es',ep',hL,r'⟩) hok hg
theorem Inv.turned {t':Nat}{it:Addr}(I:Inv X pins σ H s)(k:∀b o,b≠it->s.heap.get? b=some o->h'.get? b=some o)(hn:H it=none)(hL:it≠X.env.locals)(h1:it∈X.ex\/X.s₀.heap.objs.size<=it)(h2:∀x c,X.env.cells.lookup x=some c->c≠it)(h3:∀p∈X.pn++pins,p.1≠it):Inv X pins σ H { s with heap:=h',toks:=t' }:=by
 have nit:∀b u,H b=some u->b≠it:=fun b u e z=>by rw[z,hn] at e;cases e
 refine I.step (g':=s.gens) (d':=s.drawn) (ch:=[it]) (fun b hb=>?_) (fun b o _ _ hc e _=>k b o (fun z=>hc (by simp[z])) e) (fun b o _ _ hc e _=>⟨o.slots,k b o (fun z=>hc (by simp[z])) e⟩) (fun _ _ _ _ n=>n)
  (fun b o hc e=>⟨o,k b o (fun z=>hc (by simp[z])) e⟩) (fun _ _ e=>e) (fun _ _ _ e=>e) (fun _ _ _ _ e=>e) (fun m hm=>?_) (fun b u e=>?_) I.bare
 ·have e:b=it:=by simpa using hb
  subst e
  exact⟨h1,hL,h2,h3⟩
 ·obtain⟨o,es,ep,ho,r⟩:=hm
  exact⟨o,es,ep,k _ o (Ne.symm hL) ho,r⟩
 ·refine(I.hok b u e).stay (fun c v hc q=>k c v ?_ q) (fun _ q=>q) (fun _ _ q=>q) fun _ _ _ q=>q
  rcases hc with z|z
  ·rw[z];exact nit b u e
  ·exact nit c _ z
theorem Inv.tok (I:Inv X pins σ H s)(t:Nat):Inv X pins σ H { s with toks:=t }:=I.un (h':=s.heap) (t':=t) Un.refl I.hok
theorem Inv.kept {t':Nat}(I:Inv X pins σ H s)(k:∀b u,s.heap.get? b=some u->h'.get? b=some u):Inv X pins σ H { s with heap:=h',toks:=t' }:=I.un (Un.kept k) (I.hok.kept k)
theorem Inv.laid {a:Addr}{o:HO}{t':Nat}(I:Inv X pins σ H s)(k:∀b u,s.heap.get? b=some u->h'.get? b=some u)(hp:s.heap.objs.size<=a)(new:ObjOk X.prog X.w (upd H a o) h' a o) :
  Inv X pins σ (upd H a o) { s with heap:=h',toks:=t' }:=I.un (Un.laid k hp (I.hok.fresh hp)) (I.hok.laid k hp new)
theorem Inv.write {x e:Addr}{o:HO}{t':Nat}(I:Inv X pins σ H s)(mu:Mut (H x))(he:e=x\/H e=some (.own x))(k:∀b u,b≠e->s.heap.get? b=some u->h'.get? b=some u)(heo:∃u,h'.get? e=some u)(new:ObjOk X.prog X.w (upd H x o) h' x o):Inv X pins σ (upd H x o) { s with heap:=h',toks:=t' }:=I.un (Un.write mu he k heo) (I.hok.write mu he k heo new)
theorem Inv.weak {σ':List (Option V)}(I:Inv X pins σ H s)(hl:σ'.length=σ.length)(w:∀(i:Nat) v,σ'[i]?=some (some v)->σ[i]?=some (some v)):Inv X pins σ' H s :=
 ⟨I.ok,I.os,I.bare,I.base,let ⟨m,hn,hl'⟩:=I.loc;⟨m,hn,fun i x v e1 e2 e3=>hl' i x v e1 (w i v e2) e3⟩,I.cell,I.free,I.freeC,I.pin,I.hok,hl.trans I.len⟩
theorem Inv.pins_of {pins':List (Addr×Obj)}(I:Inv X pins σ H s)(h:∀p∈pins',s.heap.get? p.1=some p.2/\H p.1=none/\p.1≠X.env.locals/\p.1 ∉ X.fs/\∀v,p.2.data≠.cell v):Inv X pins' σ H s :=
 ⟨I.ok,I.os,I.bare,I.base,I.loc,I.cell,I.free,I.freeC,fun p hp=>(List.mem_append.mp hp).elim (fun z=>I.pin p (List.mem_append_left _ z)) (h p),I.hok,I.len⟩
theorem nodup_ix {N:List Str}(hN:N.Nodup){i j:Nat}{x:Str}(a:N[i]?=some x)(b:N[j]?=some x):i=j:=by
 obtain⟨h1,e1⟩:=List.getElem?_eq_some_iff.mp a
 obtain⟨h2,e2⟩:=List.getElem?_eq_some_iff.mp b
 exact(List.getElem_inj hN).mp (e1.trans e2.symm)
theorem store_ok2 {M:Model}{A:Around}{E:Value->Shared->Prop}{i:Nat}{x:Str}{v:V}{u:Value}{Q:Unit->Shared->Prop}(I:Inv X pins σ H s)(hN:X.N.Nodup)(hi:X.N[i]?=some x)(hx:Loc X.env.scope x)(r:RelV v u)(h:∀s',Inv X pins (σ.set i (some v)) H s'->(∃a,Heap.SameBut a s.heap s'.heap/\(a=X.env.locals\/X.env.cells.lookup x=some a))->Q () s')(hf:X.fn x=true\/X.env.scope.names.lookup x=some .local:=by first|exact .inl rfl|exact .inr rfl|assumption):wpAny M A (storeName X.env x u) Q E s:=by
 obtain⟨m,hn,hl⟩:=id I.loc
 have hcls:(X.env.scope.kind==.class||(X.env.scope.kind==.module&&X.env.locals != X.env.globals))=false:=by rw[I.ok.kind];rfl
 have hiσ:i<σ.length:=by rw[I.len];exact(List.getElem?_eq_some_iff.mp hi).1
 have cne:=I.cne
 have tracked:∀{a:Addr} {h':Heap},(∃o,s.heap.get? a=some o/\H a=none)->Heap.SameBut a s.heap h'->HOk X.prog X.w H h':=fun {a h'} ha hs b ob e=>by
  obtain⟨_,_,hfree⟩:=ha
  refine(I.hok b ob e).stay (fun c w' hc q=>(hs.2 c ?_).trans q) (fun _ q=>q) (fun _ _ q=>q) fun _ _ _ q=>q
  rintro rfl
  rcases hc with rfl|hc
  ·rw[hfree] at e;cases e
  ·rw[hfree] at hc;cases hc
 rcases hx with hk|hk
 ·refine wpAny_storeName_local hk hn (fun h' hn' hs=>?_) hcls
  obtain⟨oL,_,_,hoL,_⟩:=id hn
  refine h _ ⟨I.ok,I.os,I.bare,⟨fun b o e n hb hx=>?_,fun b o e n hb hx=>?_,I.base.free,fun b o e hx=>?_,I.base.tups,I.base.frzs,I.base.tbls⟩,⟨_,hn',fun j y v' e1 e2 e3=>?_⟩,fun y c e=>?_,I.free,I.freeC,fun p hp=>?_,tracked ⟨oL,hoL,I.free⟩ hs,by simpa using I.len⟩ ⟨_,hs,.inl rfl⟩
  ·exact(hs.2 b (Nat.ne_of_lt (Nat.lt_of_lt_of_le (Heap.lt_size e) I.ok.above))).trans (I.base.keep b o e n hb hx)
  ·obtain⟨sl,e1⟩:=I.base.slot b o e n hb hx
   exact⟨sl,(hs.2 b (Nat.ne_of_lt (Nat.lt_of_lt_of_le (Heap.lt_size e) I.ok.above))).trans e1⟩
  ·obtain⟨o',e1⟩:=I.base.there b o e hx
   exact⟨o',(hs.2 b (Nat.ne_of_lt (Nat.lt_of_lt_of_le (Heap.lt_size e) I.ok.above))).trans e1⟩
  ·by_cases hj:j=i
   ·subst hj
    rw[hi] at e1;cases e1
    rw[List.getElem?_set_self hiσ] at e2
    cases e2
    exact⟨u,r,.inl ⟨hk,by simp⟩⟩
   ·rw[List.getElem?_set_ne (Ne.symm hj)] at e2
    obtain⟨u',r',q⟩:=hl j y v' e1 e2 e3
    refine⟨u',r',?_⟩
    rcases q with⟨k,e⟩|⟨k,c,e,z⟩
    ·refine .inl ⟨k,?_⟩
     have:y≠x:=fun e=>hj (nodup_ix hN e1 (e▸hi))
     simp[this,e]
    ·exact .inr ⟨k,c,e,z.sameBut hs (cne y c e)⟩
  ·obtain⟨w',z⟩:=I.cell y c e
   exact⟨w',z.sameBut hs (cne y c e)⟩
  ·obtain⟨e,n,ne,nf,d⟩:=I.pin p hp
   exact⟨(hs.2 p.1 ne).trans e,n,ne,nf,d⟩
 ·have hfn:X.fn x=true:=by
   rcases hf with z|z
   ·exact z
   ·rw[z] at hk;cases hk
  obtain⟨c,hc⟩:=I.ok.has x (.inl hk)
  obtain⟨w',z⟩:=I.cell x c hc
  refine wpAny_storeName_cell I.ok.kind hk hc z (fun h' hc' hs=>?_)
  obtain⟨oc,hoc,hocd⟩:=id z
  refine h { s with heap:=h' } ⟨I.ok,I.os,I.bare,⟨fun b o e n hb hx=>?_,fun b o e n hb hx=>?_,I.base.free,fun b o e hx=>?_,I.base.tups,I.base.frzs,I.base.tbls⟩,⟨m,hn.sameBut hs (Ne.symm (cne x c hc)),fun j y v' e1 e2 e3=>?_⟩,fun y c' e=>?_,I.free,I.freeC,fun p hp=>?_,tracked ⟨oc,hoc,I.freeC x c hc⟩ hs,by simpa using I.len⟩ ⟨c,hs,.inr hc⟩
  ·exact(hs.2 b (Nat.ne_of_lt (Nat.lt_of_lt_of_le (Heap.lt_size e) (I.ok.cab x c hfn hc)))).trans (I.base.keep b o e n hb hx)
  ·obtain⟨sl,e1⟩:=I.base.slot b o e n hb hx
   exact⟨sl,(hs.2 b (Nat.ne_of_lt (Nat.lt_of_lt_of_le (Heap.lt_size e) (I.ok.cab x c hfn hc)))).trans e1⟩
  ·obtain⟨o',e1⟩:=I.base.there b o e hx
   exact⟨o',(hs.2 b (Nat.ne_of_lt (Nat.lt_of_lt_of_le (Heap.lt_size e) (I.ok.cab x c hfn hc)))).trans e1⟩
  ·by_cases hj:j=i
   ·subst hj
    rw[hi] at e1;cases e1
    rw[List.getElem?_set_self hiσ] at e2
    cases e2
    exact⟨u,r,.inr ⟨.inl hk,c,hc,hc'⟩⟩
   ·rw[List.getElem?_set_ne (Ne.symm hj)] at e2
    obtain⟨u',r',q⟩:=hl j y v' e1 e2 e3
    refine⟨u',r',?_⟩
    rcases q with q|⟨k,c',e,z'⟩
    ·exact .inl q
    ·refine .inr ⟨k,c',e,z'.sameBut hs ?_⟩
     rintro rfl
     exact hj (nodup_ix hN e1 (I.ok.inj _ _ _ e hc▸hi))
  ·by_cases hcc:c'=c
   ·subst hcc;exact⟨_,hc'⟩
   ·obtain⟨w2,z2⟩:=I.cell y c' e
    exact⟨w2,z2.sameBut hs hcc⟩
  ·obtain⟨e,n,ne,nf,d⟩:=I.pin p hp
   refine⟨(hs.2 p.1 ?_).trans e,n,ne,nf,d⟩
   intro q
   rw[q,hoc] at e
   have q':oc=p.2:=Option.some.inj e
   exact d w' (by rw[<-q'];exact hocd)
theorem store_ok {M:Model}{A:Around}{E:Value->Shared->Prop}{i:Nat}{x:Str}{v:V}{u:Value}{Q:Unit->Shared->Prop}(I:Inv X pins σ H s)(hN:X.N.Nodup)(hi:X.N[i]?=some x)(hx:Loc X.env.scope x)(r:RelV v u)(h:∀s',Inv X pins (σ.set i (some v)) H s'->Q () s')(hf:X.fn x=true\/X.env.scope.names.lookup x=some .local:=by first|exact .inl rfl|exact .inr rfl|assumption):wpAny M A (storeName X.env x u) Q E s :=
 store_ok2 I hN hi hx r (fun s' I' _=>h s' I') hf
theorem Inv.call' {s':Shared}{ch:List Addr}(I:Inv X pins σ H s)(ho:s'.os=s.os)(u:Un (frs X.stack) ch H H' s.heap s'.heap)(hok:HOk X.prog X.w H' s'.heap)(hg:AllBare s'.gens)(hch:∀b∈ch,(b∈X.ex\/X.s₀.heap.objs.size<=b)/\b≠X.env.locals/\(∀x c,X.env.cells.lookup x=some c->c≠b)/\∀p∈X.pn++pins,p.1≠b):Inv X pins σ H' s':=by
 obtain⟨h',g',d',t',o'⟩:=s'
 have e:o'=s.os:=ho
 subst e
 exact I.call (g':=g') (t':=t') (d':=d') u hok hg hch
end
abbrev XK:=Value->Option Addr->Hp->Prop
abbrev St:=List (Option V)
abbrev VK:=V->Hp->Prop
abbrev TE:=St->Hp->VK->Prop
abbrev TT:=St->Hp->(Bool->Hp->Prop)->Prop
abbrev TA:=St->Hp->(List V->Hp->Prop)->Prop
structure Ends where
 nx:St->Hp->Prop
 rt:VK
 bk:St->Hp->Prop:=fun _ _=>False
 ct:St->Hp->Prop:=fun _ _=>False
abbrev TS:=Ends->St->Hp->Prop
def EP (X:Cx)(pins:List (Addr×Obj))(σ:St)(Q:VK)(u:Value)(s':Shared):Prop:=∃v H',Inv X pins σ H' s'/\RelV v u/\Q v H'
def TP (X:Cx)(pins:List (Addr×Obj))(σ:St)(Q:Bool->Hp->Prop)(b:Bool)(s':Shared):Prop:=∃H',Inv X pins σ H' s'/\Q b H'
def AP (X:Cx)(pins:List (Addr×Obj))(σ:St)(Q:List V->Hp->Prop)(us:List Value)(s':Shared):Prop:=∃vs H',Inv X pins σ H' s'/\Vals vs us/\Q vs H'
def SP (X:Cx)(pins:List (Addr×Obj))(D:Ends)(f:Flow)(s':Shared):Prop :=
 match f with
 |.next=>∃σ' H',Inv X pins σ' H' s'/\D.nx σ' H'
 |.brk=>∃σ' H',Inv X pins σ' H' s'/\D.bk σ' H'
 |.cont=>∃σ' H',Inv X pins σ' H' s'/\D.ct σ' H'
 |.ret u=>∃v σ' H',Inv X pins σ' H' s'/\RelV v u/\D.rt v H'
def PE (X:Cx)(e:Expr)(t:TE):Prop :=
 ∀(pins:List (Addr×Obj)) (s:Shared) (σ:St) (H:Hp) (Q:VK),Inv X pins σ H s->t σ H Q->wpAny (model X.prog X.w) X.A (eval e X.env) (EP X pins σ Q) X.xe s
def PT (X:Cx)(e:Expr)(t:TT):Prop :=
 ∀(pins:List (Addr×Obj)) (s:Shared) (σ:St) (H:Hp) (Q:Bool->Hp->Prop),Inv X pins σ H s->t σ H Q->wpAny (model X.prog X.w) X.A (isTrue e X.env (eval e X.env)) (TP X pins σ Q) X.xe s
def PW (X:Cx)(e:Expr)(t:TT):Prop :=
 ∀(whole:Sem Value) (pins:List (Addr×Obj)) (s:Shared) (σ:St) (H:Hp) (Q:Bool->Hp->Prop),Inv X pins σ H s->t σ H Q->wpAny (model X.prog X.w) X.A (isTrue e X.env whole) (TP X pins σ Q) X.xe s
theorem PW.pt {X:Cx}{e:Expr}{t:TT}(h:PW X e t):PT X e t:=h _
def PA (X:Cx)(es:List Expr)(t:TA):Prop :=
 ∀(pos:Pos) (pins:List (Addr×Obj)) (s:Shared) (σ:St) (H:Hp) (Q:List V->Hp->Prop),Inv X pins σ H s->t σ H Q->wpAny (model X.prog X.w) X.A (spliced (backTo pos (starEach es X.env))) (AP X pins σ Q) X.xe s
def PS (X:Cx)(st:Stmt)(t:TS):Prop :=
 ∀(pins:List (Addr×Obj)) (s:Shared) (σ:St) (H:Hp) (D:Ends),Inv X pins σ H s->t D σ H->wpAny (model X.prog X.w) X.A (exec st X.env) (SP X pins D) X.xe s
def PSs (X:Cx)(st:List Stmt)(t:TS):Prop :=
 ∀(pins:List (Addr×Obj)) (s:Shared) (σ:St) (H:Hp) (D:Ends),Inv X pins σ H s->t D σ H->wpAny (model X.prog X.w) X.A (execs st X.env) (SP X pins D) X.xe s
theorem thn {α:Type}{t:Sem α}{Q Q':α->Shared->Prop}{M:Model}{A:Around}{E:Value->Shared->Prop}{s:Shared}(h:wpAny M A t Q E s)(hQ:∀a s,Q a s->Q' a s):wpAny M A t Q' E s:=wpAny_mono h hQ fun _ _ x=>x
end L2
namespace L2
open PySem PySem.Spec PyProof.Rows
section
variable {X:Cx}
def tVar (i:Nat):TE:=fun σ H Q=>∃v,σ[i]?=some (some v)/\Q v H
def tC (v:V):TE:=fun _ H Q=>Q v H
theorem pe_var {i:Nat}{x:Str}{pos:Pos}(hN:X.N[i]?=some x)(hv:Vis X.env.scope x) (hd:(x==("__debug__" : Str))=false:=by decide) (hcd:(x==("__classdict__" : Str))=false:=by decide):PE X (.Name x pos) (tVar i):=by
 intro pins s σ H Q I h
 obtain⟨v,e,h⟩:=h
 obtain⟨m,hn,hl⟩:=I.loc
 obtain⟨u,r,l⟩:=hl i x v hN e hv
 have fin:EP X pins σ Q u s:=⟨v,H,I,r,h⟩
 rcases l with⟨hk,hm⟩|⟨hk,c,hc,hcell⟩
 ·exact wpAny_Name (wpAny_loadName_local I.ok.kind hk hn hm fin) hd
 ·rcases hk with hk|hk
  ·exact wpAny_Name (wpAny_loadName_cell I.ok.kind hk hc hcell fin) hd
  ·exact wpAny_Name (wpAny_loadName_free I.ok.kind hk hc hcell fin hcd) hd
theorem pe_int {i j pos}:PE X (.Constant (.int i) j pos) (tC (.int i)):=fun _ _ _ H _ I h=>wpAny_Constant_int ⟨.int i,H,I.tok _,⟨_,rfl⟩,h⟩
theorem pe_bl {b j pos}:PE X (.Constant (.bool b) j pos) (tC (.bl b)):=fun _ _ _ H _ I h=>Constant_bool ⟨.bl b,H,I,rfl,h⟩
theorem pe_non {j pos}:PE X (.Constant .none j pos) (tC .non):=fun _ _ _ H _ I h=>Constant_none ⟨.non,H,I,rfl,h⟩
theorem pe_str {x j pos}:PE X (.Constant (.str x) j pos) (tC (.str x)):=fun _ _ _ H _ I h=>Calls.Constant_str ⟨.str x,H,I.tok _,⟨_,rfl⟩,h⟩
def Gl (X:Cx)(x:Str):Prop:=X.env.kindOf x=some .globalImplicit
theorem ld_glob {E:Value->Shared->Prop}{pins:List (Addr×Obj)}{s:Shared}{σ:St}{H:Hp}{x:Str}{u:Value}{pos:Pos}{Q:Value->Shared->Prop}(I:Inv X pins σ H s)(hg:Gl X x)(hm:X.mg x=some u)(h:Q u s)
  (hd:(x==("__debug__" : Str))=false:=by decide):wpAny (model X.prog X.w) X.A (eval (.Name x pos) X.env) Q E s :=
 Calls.Name_function_global I.ok.kind hg (Calls.loadGlobal_global (by rw[I.ok.glob];exact I.mod.glob.keeps I.bk) hm h) hd
theorem ld_blt {E:Value->Shared->Prop}{pins:List (Addr×Obj)}{s:Shared}{σ:St}{H:Hp}{x:Str}{u:Value}{pos:Pos}{Q:Value->Shared->Prop}(I:Inv X pins σ H s)(hg:Gl X x)(hm:X.mg x=none)(hv:bootBuiltins x=some u)(h:Q u s)
  (hn:x ≠ "__name__" := by decide) (hd:(x==("__debug__" : Str))=false:=by decide):wpAny (model X.prog X.w) X.A (eval (.Name x pos) X.env) Q E s:=by
 obtain⟨mb,h1,h2⟩:=I.mod.blt
 exact Calls.Name_function_global I.ok.kind hg (Calls.loadGlobal_builtin (by rw[I.ok.glob];exact I.mod.glob.keeps I.bk) hm (by rw[I.ok.blt];exact h1.keeps I.bk) ((h2 x hn).trans hv) h) hd
theorem pe_glob {x:Str}{v:V}{u:Value}{pos:Pos}(hg:Gl X x)(hm:X.mg x=some u)(r:RelV v u) (hd:(x==("__debug__" : Str))=false:=by decide):PE X (.Name x pos) (tC v) :=
 fun _ _ _ H _ I h=>ld_glob I hg hm ⟨v,H,I,r,h⟩ hd
variable {a b:Expr} {ta tb:TE} {pos:Pos}
def PC (X:Cx)(op:CmpOp)(a b:Expr)(t:TE):Prop :=
 ∀(pins:List (Addr×Obj)) (s:Shared) (σ:St) (H:Hp) (Q:VK),Inv X pins σ H s->t σ H Q ->
  wpAny (model X.prog X.w) X.A (eval a X.env) (fun v s₁=>wpAny (model X.prog X.w) X.A (eval b X.env) (fun u s₂=>wpAny (model X.prog X.w) X.A (compareOp op v u) (EP X pins σ Q) X.xe s₂) X.xe s₁) X.xe s
theorem nobehind (b:Expr){op:CmpOp}(h:op≠.In)(h2:op≠.NotIn):behindInMarks op b=false:=by
 have e1:(op==CmpOp.In)=false:=by cases op<;>first|rfl|exact absurd rfl h
 have e2:(op==CmpOp.NotIn)=false:=by cases op<;>first|rfl|exact absurd rfl h2
 cases b<;>simp[behindInMarks,e1,e2]
def tB (t:TE):TT:=fun σ H Q=>t σ H fun x H1=>∃c,x=.bl c/\Q c H1
theorem pt_cmp {op:CmpOp}{t:TE}(h:PC X op a b t)(h1:behindInMarks op b=false:=by first|exact nobehind _ (by decide) (by decide)|rfl):PT X (.Compare a [op] [b] pos) (tB t):=by
 intro pins s σ H Q I hw
 refine wpAny_isTrue_Compare1 (thn (h pins s σ H _ I hw) fun v s1 h1=>thn h1 fun u s2 h2=>thn h2 fun c s3 ⟨x,H1,I1,r1,q1⟩=>?_) h1
 obtain⟨d,rfl,q⟩:=q1
 cases r1
 exact wpAny_truthy_bool ⟨H1,I1,q⟩
theorem pt_val {e:Expr}{t:TE}(h:PE X e t)(he:∀whole,isTrue e X.env whole=(do let v <-whole;standAt e.pos;holding [v] (truthy v)):=by intro _;rfl):PT X e (tB t):=by
 intro pins s σ H Q I hw
 refine isTrue_plain (thn (h pins s σ H _ I hw) fun v s1 ⟨x,H1,I1,r1,q1⟩=>?_) (he _)
 obtain⟨d,rfl,q⟩:=q1
 cases r1
 exact wpAny_truthy_bool ⟨H1,I1,q⟩
variable {tA tB':TT} {rest:List Expr}
def tOr (t u:TT):TT:=fun σ H Q=>t σ H fun c H1=>if c=true then Q true H1 else u σ H1 Q
theorem pw_or1 (ha:PT X a tA):PW X (.BoolOp .Or [a] pos) tA:=by
 intro wh pins s σ H Q I h
 refine isTrue_or (thn (ha pins s σ H Q I h) fun c s1 e=>?_)
 cases c with
 |false=>exact isTrue_or_nil e
 |true=>exact e
theorem pw_or (ha:PT X a tA)(hb:PW X (.BoolOp .Or (b::rest) pos) tB'):PW X (.BoolOp .Or (a::b::rest) pos) (tOr tA tB'):=by
 intro wh pins s σ H Q I h
 refine isTrue_or (thn (ha pins s σ H _ I h) fun c s1 ⟨H1,I1,q1⟩=>?_)
 cases c with
 |true=>exact⟨H1,I1,q1⟩
 |false=>exact hb wh pins s1 σ H1 Q I1 q1
def tIf (t:TT)(ta tb:TE):TE:=fun σ H Q=>t σ H fun c H1=>if c=true then ta σ H1 Q else tb σ H1 Q
theorem pe_ifExp {c:Expr}(hc:PT X c tA)(ha:PE X a ta)(hb:PE X b tb):PE X (.IfExp c a b pos) (tIf tA ta tb):=by
 intro pins s σ H Q I h
 refine wpAny_IfExp (thn (hc pins s σ H _ I h) fun d s1 ⟨H1,I1,q1⟩=>?_)
 cases d with
 |true=>exact ha pins s1 σ H1 Q I1 q1
 |false=>exact hb pins s1 σ H1 Q I1 q1
end
end L2
namespace L2
open PySem PySem.Spec PyProof.Rows
def SqL (K:PySem.W.Frag)(H:Hp)(a:Addr)(xs:List V):Prop :=
 Rd H a (.lst xs) \/
  ∃(o:Obj) (its:Array Value) (n:Nat),K.lookup a=some o/\o.cls=.type "list"/\o.dict=none/\o.data=.seq its n/\its.size<=sizeLine/\Vals xs its.toList
def SqT (K:PySem.W.Frag)(H:Hp)(a:Addr)(xs:List V):Prop :=
 Rd H a (.tup xs) \/
  ∃(o:Obj) (its:Array Value) (n:Nat),K.lookup a=some o/\o.cls=.type "tuple"/\o.data=.seq its n/\its.size<=sizeLine/\Vals xs its.toList
def absV:Value->Option V
 |.none=>some .non
 |.bool b=>some (.bl b)
 |.int i _=>some (.int i)
 |.str x _=>some (.str x)
 |.bytes b _=>some (.byt b)
 |.float b _=>some (.flt b)
 |.ref a=>some (.ref a)
 |.type n=>some (.ty n)
 |_=>none
theorem RelV.abs {x:V}{u:Value}(r:RelV x u):absV u=some x:=by
 cases x with
 |non=>cases r;rfl
 |bl _=>cases r;rfl
 |int _=>obtain⟨t,rfl⟩:=r;rfl
 |str _=>obtain⟨t,rfl⟩:=r;rfl
 |byt _=>obtain⟨t,rfl⟩:=r;rfl
 |flt _=>obtain⟨t,rfl⟩:=r;rfl
 |ref _=>cases r;rfl
 |ty _=>cases r;rfl
theorem RelV.inj {x y:V}{u:Value}(r:RelV x u)(q:RelV y u):x=y:=Option.some.inj (r.abs.symm.trans q.abs)
theorem Vals.inj:∀{xs ys:List V} {us:List Value},Vals xs us->Vals ys us->xs=ys
 |_,_,_,.nil,.nil=>rfl
 |_,_,_,.cons r t,.cons r' t'=>by rw[r.inj r',Vals.inj t t']
section
variable {X:Cx} {pins:List (Addr×Obj)} {σ:St} {H:Hp} {s:Shared} {a:Addr} {xs ys:List V}
theorem SqL.of {K:PySem.W.Frag}(h:H a=some (.lst xs)):SqL K H a xs:=.inl (.inl h)
theorem SqT.of {K:PySem.W.Frag}(h:H a=some (.tup xs)):SqT K H a xs:=.inl (.inl h)
theorem Inv.list (I:Inv X pins σ H s)(h:SqL X.K H a xs):∃its:List Value,Vals xs its/\PlainL s.heap a its.toArray/\xs.length<=sizeLine:=by
 rcases h with h|⟨o,its,n,hk,hc,hd,hs,hz,r⟩
 ·obtain⟨z,its,n,r,e⟩:=h.ok I.hok
  exact⟨its,r,⟨_,n,e,rfl,rfl,rfl⟩,z⟩
 ·refine⟨its.toList,r,⟨o,n,I.kIn a o hk,hc,hd,by simpa using hs⟩,?_⟩
  have e:=r.length
  simp only[Array.length_toList] at e
  omega
theorem Inv.tuple (I:Inv X pins σ H s)(h:SqT X.K H a xs):∃its:List Value,Vals xs its/\IsTup s.heap a its.toArray/\xs.length<=sizeLine:=by
 rcases h with h|⟨o,its,n,hk,hc,hs,hz,r⟩
 ·obtain⟨z,its,r,p⟩:=h.ok I.hok
  exact⟨its,r,p,z⟩
 ·refine⟨its.toList,r,⟨o,I.kIn a o hk,hc,n,by simpa using hs⟩,?_⟩
  have e:=r.length
  simp only[Array.length_toList] at e
  omega
theorem Inv.list_inj (I:Inv X pins σ H s)(h:SqL X.K H a xs)(h':SqL X.K H a ys):xs=ys:=by
 obtain⟨its,r,⟨o,n,e,_,_,d⟩,_⟩:=I.list h
 obtain⟨its',r',⟨o',n',e',_,_,d'⟩,_⟩:=I.list h'
 rw[e] at e';cases e'
 rw[d] at d'
 injection d' with d1 _
 have:its=its':=by simpa using congrArg Array.toList d1
 subst this
 exact r.inj r'
theorem Inv.tuple_inj (I:Inv X pins σ H s)(h:SqT X.K H a xs)(h':SqT X.K H a ys):xs=ys:=by
 obtain⟨its,r,⟨o,e,_,n,d⟩,_⟩:=I.tuple h
 obtain⟨its',r',⟨o',e',_,n',d'⟩,_⟩:=I.tuple h'
 rw[e] at e';cases e'
 rw[d] at d'
 injection d' with d1 _
 have:its=its':=by simpa using congrArg Array.toList d1
 subst this
 exact r.inj r'
end
abbrev Cx.wish (X:Cx)(E:Value->Shared->Prop):Cx:={ X with xe:=E }
abbrev Cx.nox (X:Cx):Cx:=X.wish fun _ _=>False
theorem Cx.Ok.wish {X:Cx}(ok:X.Ok)(E:Value->Shared->Prop):(X.wish E).Ok :=
 ⟨ok.mod,ok.kind,ok.glob,ok.blt,ok.above,ok.inj,ok.has,ok.cab,ok.hd,ok.frames,ok.stk,ok.exf,ok.bs,ok.bsz,ok.noex,ok.exfs,ok.funs,ok.frf⟩
theorem Cx.Ok.unwish {X:Cx}{E:Value->Shared->Prop}(ok:(X.wish E).Ok):X.Ok :=
 ⟨ok.mod,ok.kind,ok.glob,ok.blt,ok.above,ok.inj,ok.has,ok.cab,ok.hd,ok.frames,ok.stk,ok.exf,ok.bs,ok.bsz,ok.noex,ok.exfs,ok.funs,ok.frf⟩
section
variable {X:Cx} {pins:List (Addr×Obj)} {σ:St} {H:Hp} {s:Shared} {E:Value->Shared->Prop}
theorem Inv.wish (I:Inv X pins σ H s)(E:Value->Shared->Prop):Inv (X.wish E) pins σ H s:=⟨I.ok.wish E,I.os,I.bare,I.base,I.loc,I.cell,I.free,I.freeC,I.pin,I.hok,I.len⟩
theorem Inv.unwish (I:Inv (X.wish E) pins σ H s):Inv X pins σ H s:=⟨I.ok.unwish,I.os,I.bare,I.base,I.loc,I.cell,I.free,I.freeC,I.pin,I.hok,I.len⟩
theorem SP.unwish {D:Ends}{f:Flow}{s':Shared}(h:SP (X.wish E) pins D f s'):SP X pins D f s':=by
 cases f with
 |next=>obtain⟨σ',H',I,q⟩:=h;exact⟨σ',H',I.unwish,q⟩
 |brk=>obtain⟨σ',H',I,q⟩:=h;exact⟨σ',H',I.unwish,q⟩
 |cont=>obtain⟨σ',H',I,q⟩:=h;exact⟨σ',H',I.unwish,q⟩
 |ret u=>obtain⟨v,σ',H',I,r,q⟩:=h;exact⟨v,σ',H',I.unwish,r,q⟩
theorem PE.nox {e:Expr}{t:TE}(h:PE X.nox e t):PE X e t:=fun pins s σ H Q I hw =>
 wpAny_mono (h pins s σ H Q (I.wish _) hw) (fun _ _ ⟨v,H',I',r,q⟩=>⟨v,H',I'.unwish,r,q⟩) fun _ _ z=>False.elim z
theorem PT.nox {e:Expr}{t:TT}(h:PT X.nox e t):PT X e t:=fun pins s σ H Q I hw =>
 wpAny_mono (h pins s σ H Q (I.wish _) hw) (fun _ _ ⟨H',I',q⟩=>⟨H',I'.unwish,q⟩) fun _ _ z=>False.elim z
theorem PSs.nox {st:List Stmt}{t:TS}(h:PSs X.nox st t):PSs X st t:=fun pins s σ H D I hw =>
 wpAny_mono (h pins s σ H D (I.wish _) hw) (fun _ _ q=>q.unwish) fun _ _ z=>False.elim z
end
section
variable {X:Cx} {st:Stmt} {rest:List Stmt} {t u:TS} {e:Expr} {te:TE} {pos:Pos}
def tNext:TS:=fun D σ H=>D.nx σ H
def tSeq (t u:TS):TS:=fun D σ H=>t { D with nx:=u D } σ H
theorem pss_nil:PSs X [] tNext:=fun _ _ σ H _ I h=>wpAny_execs_nil ⟨σ,H,I,h⟩
theorem pss_cons (h1:PS X st t)(h2:PSs X rest u):PSs X (st::rest) (tSeq t u):=by
 intro pins s σ H D I h
 refine wpAny_execs_cons (thn (h1 pins s σ H { D with nx:=u D } I h) fun f s1 q=>?_)
 cases f with
 |next =>
  obtain⟨σ',H',I',q⟩:=q
  exact h2 pins s1 σ' H' D I' q
 |ret v=>exact q
 |brk=>exact q
 |cont=>exact q
theorem pss_one (h1:PS X st t):PSs X [st] t:=by
 intro pins s σ H D I h
 refine wpAny_execs_cons (thn (h1 pins s σ H D I h) fun f s1 q=>?_)
 cases f with
 |next=>exact wpAny_execs_nil q
 |ret v=>exact q
 |brk=>exact q
 |cont=>exact q
theorem Inv.quiet {pins:List (Addr×Obj)}{σ:St}{H:Hp}{s:Shared}(I:Inv X pins σ H s):interactive X.env=false:=by simp[interactive,I.ok.kind]
def tDrop (te:TE):TS:=fun D σ H=>te σ H fun _ H1=>D.nx σ H1
theorem ps_expr (he:PE X e te)(hs:swapsWith e none pos.line X.env=pure false:=by rfl):PS X (.Expr e pos) (tDrop te):=by
 intro pins s σ H D I h
 exact wpAny_Expr_any (thn (he pins s σ H _ I h) fun v s1 ⟨x,H1,I1,r1,q1⟩=>⟨σ,H1,I1,q1⟩) I.quiet hs
def tRet (te:TE):TS:=fun D σ H=>te σ H D.rt
theorem ps_ret (he:PE X e te):PS X (.Return (some e) pos) (tRet te):=by
 intro pins s σ H D I h
 exact wpAny_Return_some (thn (he pins s σ H _ I h) fun v s1 ⟨x,H1,I1,r1,q1⟩=>⟨x,σ,H1,I1,r1,q1⟩)
def tIfS (c:TT)(t u:TS):TS:=fun D σ H=>c σ H fun b H1=>if b=true then t D σ H1 else u D σ H1
theorem ps_if {c:Expr}{a b:List Stmt}{tc:TT}(hc:PT X c tc)(ha:PSs X a t)(hb:PSs X b u):PS X (.If c a b pos) (tIfS tc t u):=by
 intro pins s σ H D I h
 refine wpAny_If (thn (hc pins s σ H _ I h) fun d s1 ⟨H1,I1,q1⟩=>?_)
 cases d with
 |true=>exact ha pins s1 σ H1 D I1 q1
 |false=>exact hb pins s1 σ H1 D I1 q1
end
abbrev TG:=V->St->Hp->(St->Hp->Prop)->Prop
abbrev TGs:=List V->St->Hp->(St->Hp->Prop)->Prop
def PG (X:Cx)(target:Expr)(t:TG):Prop :=
 ∀(pins:List (Addr×Obj)) (s:Shared) (σ:St) (H:Hp) (v:V) (u:Value) (Q:St->Hp->Prop),Inv X pins σ H s->RelV v u->t v σ H Q ->
  wpAny (model X.prog X.w) X.A (assign target X.env u) (fun _ s'=>∃σ' H',Inv X pins σ' H' s'/\Q σ' H') X.xe s
def PGs (X:Cx)(ts:List Expr)(t:TGs):Prop :=
 ∀(pins:List (Addr×Obj)) (s:Shared) (σ:St) (H:Hp) (vs:List V) (us:List Value) (Q:St->Hp->Prop),Inv X pins σ H s->Vals vs us->t vs σ H Q ->
  wpAny (model X.prog X.w) X.A (assignInOrder ((assignEach ts X.env).map (·.2)) us) (fun _ s'=>∃σ' H',Inv X pins σ' H' s'/\Q σ' H') X.xe s
abbrev TSet:=V->V->V->Hp->(Hp->Prop)->Prop
section
variable {X:Cx} {pos:Pos}
def gName (i:Nat):TG:=fun v σ H Q=>Q (σ.set i (some v)) H
theorem pg_name {i:Nat}{x:Str}(hN:X.N.Nodup)(hi:X.N[i]?=some x)(hx:Loc X.env.scope x)(hf:X.fn x=true\/X.env.scope.names.lookup x=some .local:=by first|exact .inl rfl|exact .inr rfl|assumption):PG X (.Name x pos) (gName i):=by
 intro pins s σ H v u Q I r h
 exact wpAny_assign_Name (store_ok I hN hi hx r (fun s' I'=>⟨_,H,I',h⟩) hf)
def gNil:TGs:=fun vs σ H Q=>vs=[]/\Q σ H
def gCons (t:TG)(u:TGs):TGs:=fun vs σ H Q=>∃v r,vs=v::r/\t v σ H fun σ' H'=>u r σ' H' Q
theorem pgs_nil:PGs X [] gNil:=by
 intro pins s σ H vs us Q I r h
 obtain⟨e,h⟩:=h
 subst e
 cases r
 exact assignInOrder_nil ⟨σ,H,I,h⟩
theorem pgs_cons {e:Expr}{es:List Expr}{t:TG}{u:TGs}(h1:PG X e t)(h2:PGs X es u)(hs:(assignEach (e::es) X.env).map (·.2)=assign e X.env::(assignEach es X.env).map (·.2):=by rfl):PGs X (e::es) (gCons t u):=by
 intro pins s σ H vs us Q I r h
 obtain⟨v,vr,e1,h⟩:=h
 subst e1
 cases r with
 |cons r rr =>
  rw[hs]
  refine assignInOrder_cons (thn (h1 pins s σ H _ _ _ I r h) fun _ s1 ⟨σ1,H1,I1,q1⟩=>?_)
  exact h2 pins s1 σ1 H1 _ _ Q I1 rr q1
def gSub (to ti:TE)(t:TSet):TG:=fun v σ H Q=>to σ H fun o H1=>ti σ H1 fun i H2=>t o i v H2 fun H3=>Q σ H3
def tAsg (te:TE)(g:TG):TS:=fun D σ H=>te σ H fun x H1=>g x σ H1 D.nx
theorem ps_asg {tg e:Expr}{te:TE}{g:TG}(he:PE X e te)(hg:PG X tg g)(hs:swapsWithSole [tg] e pos.line X.env=pure false:=by rfl)(hw:swappedStores [tg] e X.env=pure none:=by rfl)(h1:(assignEach [tg] X.env).map (·.2)=[assign tg X.env]:=by rfl):PS X (.Assign [tg] e pos) (tAsg te g):=by
 intro pins s σ H D I h
 refine wpAny_Assign_stores (thn (he pins s σ H _ I h) fun v s1 ⟨x,H1,I1,r1,q1⟩=>?_) hs hw
 rw[h1]
 exact thn (hg pins s1 σ H1 x v _ I1 r1 q1) fun _ s2 q=>q
theorem ps_set {i:Nat}{x:Str}{e:Expr}{te:TE}{pos':Pos}(hN:X.N.Nodup)(hi:X.N[i]?=some x)(hx:Loc X.env.scope x)(he:PE X e te)(hs:swapsWith e (some (.Name x pos')) pos.line X.env=pure false:=by rfl)(hf:X.fn x=true\/X.env.scope.names.lookup x=some .local:=by first|exact .inl rfl|exact .inr rfl|assumption) :
  PS X (.Assign [.Name x pos'] e pos) (tAsg te (gName i)):=by
 intro pins s σ H D I h
 refine wpAny_Assign_Name (thn (he pins s σ H _ I h) fun v s1 ⟨y,H1,I1,r1,q1⟩=>?_) hs
 exact store_ok I1 hN hi hx r1 (fun s2 I2=>⟨_,H1,I2,q1⟩) hf
def tPar (i j:Nat)(ta:TA):TS:=fun D σ H=>ta σ H fun vs H1=>∃v w,vs=[v,w]/\D.nx ((σ.set i (some v)).set j (some w)) H1
theorem ps_par {i j:Nat}{x y:Str}{a b:Expr}{ta:TA}{px py pt:Pos}{kt k2 pt2}(hc:X.calm=true)(hN:X.N.Nodup)(hi:X.N[i]?=some x)(hj:X.N[j]?=some y)(hij:i≠j)(hx:X.env.scope.names.lookup x=some .local)(hy:X.env.scope.names.lookup y=some .local)(ha:PA X [a,b] ta)(hw:swappedStores [.Tuple [.Name x px,.Name y py] kt pt] (.Tuple [a,b] k2 pt2) X.env=pure (some [x,y]))(hs:swapsWithSole [.Tuple [.Name x px,.Name y py] kt pt] (.Tuple [a,b] k2 pt2) pos.line X.env=pure false:=by rfl) :
  PS X (.Assign [.Tuple [.Name x px,.Name y py] kt pt] (.Tuple [a,b] k2 pt2) pos) (tPar i j ta):=by
 intro pins s σ H D I h
 rw[exec_Assign_arm]
 refine wpAny_bind (wpAny_standAt ?_)
 rw[hs]
 refine wpAny_bind (wpAny_pure ?_)
 rw[if_neg (by decide)]
 refine wpAny_bind (Tuple_ (thn (ha _ pins s σ H _ I h) fun us s1 ⟨vs,H1,I1,r1,q1⟩=>?_))
 obtain⟨v,w,e1,q1⟩:=q1
 subst e1
 obtain⟨u1,u2,rfl,rv,rw'⟩:∃u1 u2,us=[u1,u2]/\RelV v u1/\RelV w u2:=by
  cases r1 with
  |cons p q =>
   cases q with
   |cons p' q' =>
    cases q'
    exact⟨_,_,rfl,p,p'⟩
 refine wpAny_newObj_type ?_ (by show 2<=sizeLine;decide)
 have I2:Inv X pins σ H1 { s1 with heap:=s1.heap.push { cls:=.type "tuple", data:=.seq [u1,u2].toArray } }:=I1.kept (t':=s1.toks) fun b o e=>Heap.get?_push_of_some _ e
 rw[hw]
 refine wpAny_bind (wpAny_pure ?_)
 show wpAny (model X.prog X.w) X.A (do rule "assign.swapped-stores"; let items <-unpackItems (.ref s1.heap.objs.size) 2 none;assignInOrder [fun v=>bindName X.env y v,fun v=>bindName X.env x v] items.reverse;pure Flow.next) _ _ _
 refine wpAny_bind (wpAny_rule (wpAny_bind (unpackItems_tuple (items:=#[u1,u2]) (I.ok.hd hc) (IsTup.new s1.heap _) fun h' hx'=>?_)))
 have I3:=I2.kept (h':=h') (t':=s1.toks) fun b o e=>hx' b o (Nat.ne_of_lt (Heap.lt_size e)) e
 show wpAny _ _ (assignInOrder [fun v=>bindName X.env y v,fun v=>bindName X.env x v] [u2,u1]>>=fun _=>pure Flow.next) _ _ _
 refine wpAny_bind (assignInOrder_cons (wpAny_bindName (store_ok I3 hN hj (.inl hy) rw' (fun s2 I4=>?_) (.inr hy))))
 refine assignInOrder_cons (wpAny_bindName (store_ok I4 hN hi (.inl hx) rv (fun s3 I5=>assignInOrder_nil (wpAny_pure ?_)) (.inr hx)))
 rw[List.set_comm _ _ (Ne.symm hij)] at I5
 exact⟨_,H1,I5,q1⟩
end
section
variable {X:Cx} {pos:Pos}
def tWhile (c:TT)(tb:TS):TS:=fun D σ H=>∃W:Nat->St->Hp->Prop,(∃m,W m σ H)/\∀m σ H,W m σ H ->
 c σ H fun b H1=>if b=true then ∃N:St->Hp->Prop,(∀σ' H',N σ' H'->∃m',m'<m/\W m' σ' H')/\tb { D with nx:=N,ct:=N,bk:=D.nx } σ H1 else D.nx σ H1
theorem ps_while {c:Expr}{body:List Stmt}{tc:TT}{tb:TS}(hp:PassesOwn (model X.prog X.w) X.A X.env X.xe)(hc:PT X c tc)(hb:PSs X body tb):PS X (.While c body [] pos) (tWhile tc tb):=by
 intro pins s σ H D I h
 obtain⟨W,⟨m0,w0⟩,turn⟩:=h
 refine wpAny_While (codeAny_whileLoop (fun n s'=>∃σ' H',Inv X pins σ' H' s'/\W n σ' H') ?_ m0 ⟨σ,H,I,w0⟩)
 rintro n s1 ⟨σ1,H1,I1,w1⟩
 refine wpAny_passesOwn hp (thn (hc pins s1 σ1 H1 _ I1 (turn n σ1 H1 w1)) fun b s2 ⟨H2,I2,q2⟩=>?_)
 cases b with
 |true =>
  obtain⟨N,hN,q2⟩:=q2
  rw[if_pos rfl]
  refine wpAny_passesOwn hp (thn (hb pins s2 σ1 H2 _ I2 q2) fun f s3 q3=>?_)
  cases f with
  |next =>
   obtain⟨σ3,H3,I3,n3⟩:=q3
   obtain⟨m',hm,w3⟩:=hN σ3 H3 n3
   exact⟨m',hm,σ3,H3,I3,w3⟩
  |cont =>
   obtain⟨σ3,H3,I3,n3⟩:=q3
   obtain⟨m',hm,w3⟩:=hN σ3 H3 n3
   exact⟨m',hm,σ3,H3,I3,w3⟩
  |brk=>exact q3
  |ret v=>exact q3
 |false =>
  rw[if_neg Bool.false_ne_true]
  exact wpAny_execs_nil ⟨σ1,H2,I2,q2⟩
end
structure It where
 go:Nat->Hp->Prop
 yld:Nat->Hp->V->Hp->Prop
 stop:Nat->Hp->Prop
def FpOk (X:Cx)(pins:List (Addr×Obj))(H:Hp)(b:Addr):Prop :=
 H b=none/\b≠X.env.locals/\b ∉ X.fs/\(b∈X.ex\/X.s₀.heap.objs.size<=b)/\(∀x c,X.env.cells.lookup x=some c->c≠b)/\∀p∈X.pn++pins,p.1≠b
theorem Inv.fpOk {X:Cx}{pins:List (Addr×Obj)}{σ:St}{H H':Hp}{s:Shared}{b:Addr}(I:Inv X pins σ H s)(hb:s.heap.objs.size<=b)(hn:H' b=none):FpOk X pins H' b:=by
 refine⟨hn,Nat.ne_of_gt (Nat.lt_of_lt_of_le I.lt hb),I.nofs hb,.inr (Nat.le_trans I.sz hb),fun x c e z=>?_,fun p hp z=>?_⟩
 ·obtain⟨v,q⟩:=I.cell x c e
  exact absurd (Nat.lt_of_lt_of_le q.lt (by rw[z];exact hb)) (Nat.lt_irrefl _)
 ·exact absurd (Nat.lt_of_lt_of_le (Heap.lt_size (I.pin p hp).1) (by rw[z];exact hb)) (Nat.lt_irrefl _)
structure Turn (P:Program) (w:World) (K:PySem.W.Frag) (tg:Expr) (J:It) (fp:List Addr) (it:Addr) (tn:Nat->Heap->Prop):Prop where
 mem:it∈fp
 obj:∀i h,tn i h->∀b∈fp,∃o,h.get? b=some o/\∀v,o.data≠.cell v
 keep:∀i h h',tn i h->(∀b∈fp,∀o,h.get? b=some o->h'.get? b=some o)->tn i h'
 item:∀(X:Cx),X.prog=P->X.w=w->X.K=K->X.calm=true->∀(i:Nat) (pins:List (Addr×Obj)) (s:Shared) (σ:St) (H:Hp) (E:Value->Shared->Prop),Inv X pins σ H s->(∀b∈fp,FpOk X pins H b)->tn i s.heap->J.go i H ->
  wpAny (model P w) X.A (pyNext (.ref it)) (fun r s1=>∃u,r=some u /\
   wpAny (model P w) X.A (letOwnedTupleGo tg (.ref it) u) (fun _ s2=>∃x H',Inv X pins σ H' s2/\RelV x u/\J.yld i H x H'/\tn (i+1) s2.heap/\∀b∈fp,H' b=none) E s1) E s
 done:∀(X:Cx),X.prog=P->X.w=w->X.K=K->X.calm=true->∀(i:Nat) (pins:List (Addr×Obj)) (s:Shared) (σ:St) (H:Hp) (E:Value->Shared->Prop),Inv X pins σ H s->(∀b∈fp,FpOk X pins H b)->tn i s.heap->J.stop i H ->
  wpAny (model P w) X.A (pyNext (.ref it)) (fun r s1=>r=none/\Inv X pins σ H s1) E s
 self:∀(A:Around) (i:Nat) (s:Shared) (Q:Value->Shared->Prop) (E:Value->Shared->Prop),tn i s.heap->Q (.ref it) s->wpAny (model P w) A (pyIter (.ref it)) Q E s
abbrev TI:=St->Hp->(It->Hp->Prop)->Prop
def PIE (X:Cx)(pins:List (Addr×Obj))(σ:St)(tg:Expr)(R:It->Hp->Prop)(itv:Value)(s2:Shared):Prop :=
 ∃(it:Addr) (fp:List Addr) (tn:Nat->Heap->Prop) (J:It) (H':Hp),itv=.ref it/\Inv X pins σ H' s2/\Turn X.prog X.w X.K tg J fp it tn/\tn 0 s2.heap/\(∀b∈fp,FpOk X pins H' b)/\R J H'
def PI (X:Cx)(tg iter:Expr)(wi:TI):Prop :=
 ∀(pins:List (Addr×Obj)) (s:Shared) (σ:St) (H:Hp) (R:It->Hp->Prop),Inv X pins σ H s->wi σ H R ->
  wpAny (model X.prog X.w) X.A (eval iter X.env) (fun v s1=>wpAny (model X.prog X.w) X.A (pyIter v) (PIE X pins σ tg R) X.xe s1) X.xe s
theorem go_of {M:Model}{A:Around}{E:Value->Shared->Prop}{s:Shared}{tg:Expr}{it:Addr}{u:Value}{o:Obj}{n:String}{vs:Array Value}{Q:Unit->Shared->Prop}(ho:s.heap.get? it=some o)(hc:o.cls=.type n)(hd:o.data=.fields vs)
  (hn:["enumerate", "zip", "dict_itemiterator", "dict_reverseitemiterator", "odict_iterator", "itertools.zip_longest", "itertools.pairwise"].contains n=false) (hQ:Q () s):wpAny M A (letOwnedTupleGo tg (.ref it) u) Q E s:=by
 unfold letOwnedTupleGo
 cases tg<;>first
  |exact wpAny_pure hQ
  |(cases u<;>first
    |exact wpAny_pure hQ
    |(refine wpAny_bind (wpAny_load ho ?_)
      rw[hc,hd]
      show wpAny M A (if(["enumerate", "zip", "dict_itemiterator", "dict_reverseitemiterator", "odict_iterator", "itertools.zip_longest", "itertools.pairwise"].contains n&&vs[0]?==some (rawInt _))=true then _ else _) Q E s
      rw[if_neg (by intro h;rw[hn,Bool.false_and] at h;cases h)]
      exact wpAny_pure hQ))
def Itl (K:PySem.W.Frag)(a:Addr):It :=
 ⟨fun i H=>∃xs x,SqL K H a xs/\xs[i]?=some x,fun i H x H'=>H'=H/\∀xs,SqL K H a xs->xs[i]?=some x,fun i H=>∃xs,SqL K H a xs/\xs.length<=i⟩
def Itt (K:PySem.W.Frag)(a:Addr):It :=
 ⟨fun i H=>∃xs x,SqT K H a xs/\xs[i]?=some x,fun i H x H'=>H'=H/\∀xs,SqT K H a xs->xs[i]?=some x,fun i H=>∃xs,SqT K H a xs/\xs.length<=i⟩
def Itr (lo:Int)(n:Nat):It:=⟨fun i _=>i<n,fun i H x H'=>H'=H/\x=.int (lo+i),fun i _=>n<=i⟩
theorem turn_list {P:Program}{w:World}{K:PySem.W.Frag}{tg:Expr}(a it:Addr):Turn P w K tg (Itl K a) [it] it (fun i h=>h.IsListIter it a i) where
 mem:=by simp
 obj:=fun i h st b hb=>by
  have e:b=it:=by simpa using hb
  subst e
  obtain⟨o,e,c,d⟩:=st
  exact⟨o,e,fun v z=>by rw[d] at z;cases z⟩
 keep:=fun i h h' st k=>st.at fun o e=>k it (by simp) o e
 item:=by
  intro X hP hw hK hc i pins s σ H E I hf st hg
  subst hP hw hK
  obtain⟨xs,x,hq,hx⟩:=hg
  obtain⟨its,rv,p,hz⟩:=I.list hq
  obtain⟨u,hu,ru⟩:=rv.get hx
  obtain⟨f0,f1,f2,f3,f4,f5⟩:=hf it (by simp)
  refine wpAny_pyNext_list_item st p.isList (x:=u) (by simpa using hu) fun h' st' sb=>?_
  have I1:Inv X pins σ H { s with heap:=h' }:=I.turned (t':=s.toks) (fun b o hb e=>(sb.2 b hb).trans e) f0 f1 f3 f4 f5
  obtain⟨o,e,c,d⟩:=id st'
  exact⟨u,rfl,go_of (s:={ s with heap:=h' }) e c d (by decide) ⟨x,H,I1,ru,⟨rfl,fun ys hy=>by rw[I.list_inj hy hq];exact hx⟩,st',fun b hb=>(hf b hb).1⟩⟩
 done:=by
  intro X hP hw hK hc i pins s σ H E I hf st hg
  subst hP hw hK
  obtain⟨xs,hq,hx⟩:=hg
  obtain⟨its,rv,p,hz⟩:=I.list hq
  obtain⟨f0,f1,f2,f3,f4,f5⟩:=hf it (by simp)
  have hl:=rv.length
  exact wpAny_pyNext_list_end (I.ok.hd hc) st p.isList (by simp;omega) fun h' eb=>⟨rfl,I.turned (t':=s.toks) (fun b o hb e=>eb b o hb e) f0 f1 f3 f4 f5⟩
 self:=fun _ _ _ _ _ st h=>wpAny_pyIter_listiter st h
theorem turn_tuple {P:Program}{w:World}{K:PySem.W.Frag}{tg:Expr}(a it:Addr):Turn P w K tg (Itt K a) [it] it (fun i h=>h.IsTupleIter it a i) where
 mem:=by simp
 obj:=fun i h st b hb=>by
  have e:b=it:=by simpa using hb
  subst e
  obtain⟨o,e,c,d⟩:=st
  exact⟨o,e,fun v z=>by rw[d] at z;cases z⟩
 keep:=fun i h h' st k=>st.at fun o e=>k it (by simp) o e
 item:=by
  intro X hP hw hK hc i pins s σ H E I hf st hg
  subst hP hw hK
  obtain⟨xs,x,hq,hx⟩:=hg
  obtain⟨its,rv,p,hz⟩:=I.tuple hq
  obtain⟨u,hu,ru⟩:=rv.get hx
  obtain⟨f0,f1,f2,f3,f4,f5⟩:=hf it (by simp)
  refine wpAny_pyNext_tuple_item st (show s.heap.IsTuple a its.toArray from p) (x:=u) (by simpa using hu) fun h' st' sb=>?_
  have I1:Inv X pins σ H { s with heap:=h' }:=I.turned (t':=s.toks) (fun b o hb e=>(sb.2 b hb).trans e) f0 f1 f3 f4 f5
  obtain⟨o,e,c,d⟩:=id st'
  exact⟨u,rfl,go_of (s:={ s with heap:=h' }) e c d (by decide) ⟨x,H,I1,ru,⟨rfl,fun ys hy=>by rw[I.tuple_inj hy hq];exact hx⟩,st',fun b hb=>(hf b hb).1⟩⟩
 done:=by
  intro X hP hw hK hc i pins s σ H E I hf st hg
  subst hP hw hK
  obtain⟨xs,hq,hx⟩:=hg
  obtain⟨its,rv,p,hz⟩:=I.tuple hq
  obtain⟨f0,f1,f2,f3,f4,f5⟩:=hf it (by simp)
  have hl:=rv.length
  exact wpAny_pyNext_tuple_end (I.ok.hd hc) st (show s.heap.IsTuple a its.toArray from p) (by simp;omega) fun h' eb=>⟨rfl,I.turned (t':=s.toks) (fun b o hb e=>eb b o hb e) f0 f1 f3 f4 f5⟩
 self:=fun _ _ _ _ _ st h=>wpAny_pyIter_tupleiter st h
theorem turn_range {P:Program}{w:World}{K:PySem.W.Frag}{tg:Expr}(it:Addr)(lo:Int)(n:Nat):Turn P w K tg (Itr lo n) [it] it (fun i h=>IsRangeIter h it (lo+(i:Nat)*1) ((n:Int) - (i:Nat)) 1) where
 mem:=by simp
 obj:=fun i h st b hb=>by
  have e:b=it:=by simpa using hb
  subst e
  exact⟨_,st,fun v z=>by
   have z':Data.fields _=Data.cell v:=z
   cases z'⟩
 keep:=fun i h h' st k=>k it (by simp) _ st
 item:=by
  intro X hP hw hK hc i pins s σ H E I hf st hg
  subst hP hw hK
  obtain⟨f0,f1,f2,f3,f4,f5⟩:=hf it (by simp)
  have W:=Walks.range (prog:=X.prog) (w:=X.w) (I.ok.hd hc) it lo 1 n
  refine W.item i s _ _ hg st fun v h' tk hv st' kk=>?_
  obtain⟨t,rfl⟩:=hv
  have I1:Inv X pins σ H { s with heap:=h',toks:=tk }:=I.turned (fun b o hb e=>kk b o (by simpa using hb) e) f0 f1 f3 f4 f5
  refine⟨_,rfl,go_of (s:={ s with heap:=h',toks:=tk }) (n := "range_iterator") st' rfl rfl (by decide) ⟨.int (lo+i),H,I1,⟨t,?_⟩,⟨rfl,rfl⟩,st',fun b hb=>(hf b hb).1⟩⟩
  rw[Int.mul_one]
 done:=by
  intro X hP hw hK hc i pins s σ H E I hf st hg
  subst hP hw hK
  obtain⟨f0,f1,f2,f3,f4,f5⟩:=hf it (by simp)
  exact wpAny_pyNext_range_end (I.ok.hd hc) st (by have:n<=i:=hg;omega) fun h' eb=>⟨rfl,I.turned (t':=s.toks) (fun b o hb e=>eb b o hb e) f0 f1 f3 f4 f5⟩
 self:=fun _ _ _ _ _ st h=>wpAny_pyIter_rangeiter st h
end L2
namespace L2
open PySem PySem.Spec PyProof.Rows
section
variable {X:Cx} {tg:Expr}
theorem range_it {pins:List (Addr×Obj)}{σ:St}{H:Hp}{s:Shared}{R:It->Hp->Prop}{E:Value->Shared->Prop}{lo hi:Int}{t u v:Tok}{tk:Nat}(I:Inv X pins σ H s)(h1:-(2 ^ 62)<=lo)(h2:lo<2 ^ 62)(h3:-(2 ^ 62)<=hi)(h4:hi<2 ^ 62)(q:R (Itr lo (hi - lo).toNat) H):wpAny (model X.prog X.w) X.A (pyIter (.ref s.heap.objs.size)) (PIE X pins σ tg R) E { s with heap:=s.heap.push { cls:=.type "range", data:=.fields #[.int lo t,.int hi u,.int 1 v] },toks:=tk }:=by
 refine wpAny_pyIter_range (IsRange.new ..) (small_one h1 h2 h3 h4) ?_
 have I1:Inv X pins σ H { s with heap:=s.heap.push { cls:=.type "range", data:=.fields #[.int lo t,.int hi u,.int 1 v] },toks:=tk }:=I.kept fun b o e=>Heap.get?_push_of_some _ e
 refine⟨(s.heap.push { cls:=.type "range", data:=.fields #[.int lo t,.int hi u,.int 1 v] }).objs.size,[(s.heap.push { cls:=.type "range", data:=.fields #[.int lo t,.int hi u,.int 1 v] }).objs.size],_,_,H,rfl,
  I1.kept (t':=tk) fun b o e=>Heap.get?_push_of_some _ e,turn_range _ lo (hi - lo).toNat,?_,fun b hb=>?_,q⟩
 ·have e1:lo+((0:Nat):Int)*1=lo:=by simp
  have e2:(((hi - lo).toNat:Nat):Int) - ((0:Nat):Int)=Builtin.Range.rangeSize lo hi 1:=by rw[rangeSize_one];split<;>omega
  show IsRangeIter _ _ (lo+((0:Nat):Int)*1) ((((hi - lo).toNat:Nat):Int) - ((0:Nat):Int)) 1
  rw[e1,e2]
  exact Heap.get?_push_size _ rfl
 ·have e:b=(s.heap.push { cls:=.type "range", data:=.fields #[.int lo t,.int hi u,.int 1 v] }).objs.size:=by simpa using hb
  subst e
  exact I1.fpOk (Nat.le_refl _) (I1.hok.fresh (Nat.le_refl _))
def iRng1 (ta:TA):TI:=fun σ H R=>ta σ H fun vs H1=>∃j:Int,vs=[.int j]/\-(2 ^ 62)<=j/\j<2 ^ 62/\R (Itr 0 j.toNat) H1
def iRng2 (ta:TA):TI:=fun σ H R=>ta σ H fun vs H1=>∃i j:Int,vs=[.int i,.int j]/\(-(2 ^ 62)<=i/\i<2 ^ 62/\-(2 ^ 62)<=j/\j<2 ^ 62)/\R (Itr i (j - i).toNat) H1
theorem pi_range1 {a:Expr}{ta:TA}{p pos:Pos} (hg:Gl X "range") (hm:X.mg "range" = none) (ha:PA X [a] ta) (hs:starEach [a] X.env=[(false,eval a X.env)]:=by rfl):PI X tg (.Call (.Name "range" p) [a] [] pos) (iRng1 ta):=by
 intro pins s σ H R I h
 refine Call_ (ld_blt I hg hm boot_range (PyProof.Rows.callWith_type1 (thn (ha pos pins s σ H _ I h) fun us s1 ⟨vs,H1,I1,r1,q1⟩=>?_) hs rfl))
 obtain⟨j,e,q1,q2,q⟩:=q1
 subst e
 cases r1 with
 |cons r rr =>
  cases rr
  obtain⟨t,rfl⟩:=r
  exact call_range_1 (range_it I1 (by omega) (by omega) q1 q2 (by simpa using q))
theorem pi_range2 {a b:Expr}{ta:TA}{p pos:Pos} (hg:Gl X "range") (hm:X.mg "range" = none) (ha:PA X [a,b] ta) (hs:starEach [a,b] X.env=[(false,eval a X.env),(false,eval b X.env)]:=by rfl) (hs2:starEach [b] X.env=[(false,eval b X.env)]:=by rfl) :
  PI X tg (.Call (.Name "range" p) [a,b] [] pos) (iRng2 ta):=by
 intro pins s σ H R I h
 refine Call_ (ld_blt I hg hm boot_range (PyProof.Rows.callWith_type1 (thn (ha pos pins s σ H _ I h) fun us s1 ⟨vs,H1,I1,r1,q1⟩=>?_) (by rw[hs,hs2]) (by rw[hs2];rfl)))
 obtain⟨i,j,e,⟨q1,q2,q3,q4⟩,q⟩:=q1
 subst e
 cases r1 with
 |cons r rr =>
  cases rr with
  |cons r' rr =>
   cases rr
   obtain⟨t,rfl⟩:=r
   obtain⟨t',rfl⟩:=r'
   exact call_range_2 (range_it I1 q1 q2 q3 q4 q)
def tFor (wi:TI)(g:TG)(tb:TS):TS:=fun D σ H=>wi σ H fun J H1=>∃W:Nat->Nat->St->Hp->Prop,(∃m,W 0 m σ H1)/\∀i m σ H,W i m σ H ->
 (J.stop i H/\D.nx σ H)\/(J.go i H/\∃N:St->Hp->Prop,(∀σ' H',N σ' H'->∃m',m'<m/\W (i+1) m' σ' H')/\∀x H',J.yld i H x H'->g x σ H' fun σ2 H2=>tb { D with nx:=N,ct:=N,bk:=D.nx } σ2 H2)
def pinsAt (fp:List Addr)(h:Heap):List (Addr×Obj):=fp.filterMap fun b=>(h.get? b).map fun o=>(b,o)
theorem mem_pinsAt {fp:List Addr}{h:Heap}{b:Addr}{o:Obj}(hb:b∈fp)(e:h.get? b=some o):(b,o)∈pinsAt fp h:=List.mem_filterMap.mpr ⟨b,hb,by rw[e];rfl⟩
theorem of_pinsAt {fp:List Addr}{h:Heap}{p:Addr×Obj}(hp:p∈pinsAt fp h):p.1∈fp/\h.get? p.1=some p.2:=by
 obtain⟨b,hb,e⟩:=List.mem_filterMap.mp hp
 cases q:h.get? b with
 |none=>rw[q] at e;cases e
 |some o =>
  rw[q] at e
  have e':(b,o)=p:=Option.some.inj e
  subst e'
  exact⟨hb,q⟩
theorem Inv.pinned {pins:List (Addr×Obj)}{σ:St}{H:Hp}{s:Shared}{fp:List Addr}(I:Inv X pins σ H s)(hf:∀b∈fp,FpOk X pins H b)(ho:∀b∈fp,∃o,s.heap.get? b=some o/\∀v,o.data≠.cell v):Inv X (pins++pinsAt fp s.heap) σ H s :=
 I.pins_of fun p hp=>(List.mem_append.mp hp).elim (fun z=>I.pin p (List.mem_append_right _ z)) fun z=>by
  obtain⟨hb,e⟩:=of_pinsAt z
  obtain⟨f0,f1,f2,_⟩:=hf p.1 hb
  obtain⟨o,e',d⟩:=ho p.1 hb
  rw[e] at e';cases e'
  exact⟨e,f0,f1,f2,d⟩
theorem Inv.unpinned {pins pl:List (Addr×Obj)}{σ:St}{H:Hp}{s:Shared}(I:Inv X (pins++pl) σ H s):Inv X pins σ H s:=I.pins_of fun p hp=>I.pin p (List.mem_append_right _ (List.mem_append_left _ hp))
theorem ps_for {iter:Expr}{body:List Stmt}{wi:TI}{g:TG}{tb:TS}{pos:Pos}(hp:PassesOwn (model X.prog X.w) X.A X.env X.xe)(hc:X.calm=true)(hi:PI X tg iter wi)(hg:PG X tg g)(hb:PSs X body tb)(hs:∀x,foldedSetIterable iter X.env x=pure x:=by intro _;rfl):PS X (.For tg iter body [] pos) (tFor wi g tb):=by
 intro pins s σ H D I h
 refine wpAny_For (thn (hi pins s σ H _ I h) fun v s1 h1=>thn h1 fun itv s2 h2=>?_) hs
 obtain⟨it,fp,tn,J,H2,e,I2,T,st2,f2,W,⟨m0,w0⟩,turn⟩:=h2
 subst e
 have stat:∀{H':Hp},(∀b∈fp,H' b=none)->∀b∈fp,FpOk X pins H' b:=fun hn b hb=>⟨hn b hb,(f2 b hb).2⟩
 refine codeAny_forLoop_any (fun n s'=>∃i σ' H',Inv X pins σ' H' s'/\tn i s'.heap/\(∀b∈fp,H' b=none)/\W i n σ' H') ?_ m0 ⟨0,σ,H2,I2,st2,fun b hb=>(f2 b hb).1,w0⟩
 rintro n s3 ⟨i,σ3,H3,I3,st3,fr3,w3⟩
 rcases turn i n σ3 H3 w3 with⟨stop,qn⟩|⟨go,N,hN,step⟩
 ·refine wpAny_passesOwn hp (thn (T.done X rfl rfl rfl hc i pins s3 σ3 H3 X.xe I3 (stat fr3) st3 stop) fun r s4 ⟨hr,I4⟩=>?_)
  subst hr
  exact wpAny_execs_nil ⟨σ3,H3,I4,qn⟩
 ·refine wpAny_passesOwn hp (thn (T.item X rfl rfl rfl hc i pins s3 σ3 H3 X.xe I3 (stat fr3) st3 go) fun r s4 ⟨u,hr,h4⟩=>?_)
  subst hr
  refine wpAny_passesOwn hp (thn h4 fun _ s5 ⟨x,H5,I5,r5,y5,st5,fr5⟩=>?_)
  have I5':=I5.pinned (stat fr5) (T.obj _ _ st5)
  refine wpAny_passesOwn hp (thn (hg _ s5 σ3 H5 x u _ I5' r5 (step x H5 y5)) fun _ s6 ⟨σ6,H6,I6,q6⟩=>?_)
  refine wpAny_passesOwn hp (thn (hb _ s6 σ6 H6 _ I6 q6) fun f s7 q7=>?_)
  have again:∀{σ7:St} {H7:Hp},Inv X (pins++pinsAt fp s5.heap) σ7 H7 s7->N σ7 H7->∃m,m<n/\∃i σ' H',Inv X pins σ' H' s7/\tn i s7.heap/\(∀b∈fp,H' b=none)/\W i m σ' H':=fun {σ7 H7} I7 n7=>by
   obtain⟨m',hm,w7⟩:=hN σ7 H7 n7
   refine⟨m',hm,i+1,σ7,H7,I7.unpinned,T.keep _ _ _ st5 fun b hb o e=>(I7.pin (b,o) (List.mem_append_right _ (List.mem_append_right _ (mem_pinsAt hb e)))).1,fun b hb=>?_,w7⟩
   obtain⟨o,e,d⟩:=T.obj _ _ st5 b hb
   exact(I7.pin (b,o) (List.mem_append_right _ (List.mem_append_right _ (mem_pinsAt hb e)))).2.1
  cases f with
  |next=>obtain⟨σ7,H7,I7,n7⟩:=q7;exact again I7 n7
  |cont=>obtain⟨σ7,H7,I7,n7⟩:=q7;exact again I7 n7
  |brk=>obtain⟨σ7,H7,I7,q7⟩:=q7;exact⟨σ7,H7,I7.unpinned,q7⟩
  |ret v=>obtain⟨x7,σ7,H7,I7,r7,q7⟩:=q7;exact⟨x7,σ7,H7,I7.unpinned,r7,q7⟩
end
end L2
namespace L2
open PySem PySem.Spec PyProof.Rows
abbrev R2:=V->V->Hp->VK->Prop
def OpR (X:Cx)(f:Value->Value->Sem Value)(r:R2):Prop :=
 ∀(pins:List (Addr×Obj)) (s:Shared) (σ:St) (H:Hp) (x y:V) (v u:Value) (Q:VK),Inv X pins σ H s->RelV x v->RelV y u->r x y H Q ->
  wpAny (model X.prog X.w) X.A (f v u) (EP X pins σ Q) X.xe s
def UnR (X:Cx)(f:Value->Sem Value)(r:V->Hp->VK->Prop):Prop :=
 ∀(pins:List (Addr×Obj)) (s:Shared) (σ:St) (H:Hp) (x:V) (v:Value) (Q:VK),Inv X pins σ H s->RelV x v->r x H Q ->
  wpAny (model X.prog X.w) X.A (f v) (EP X pins σ Q) X.xe s
def CallR (X:Cx)(f:Value)(r:List V->Hp->VK->Prop):Prop :=
 ∀(pins:List (Addr×Obj)) (s:Shared) (σ:St) (H:Hp) (xs:List V) (us:List Value) (Q:VK),Inv X pins σ H s->Vals xs us->r xs H Q ->
  wpAny (model X.prog X.w) X.A (call f us) (EP X pins σ Q) X.xe s
def tOp (r:R2)(ta tb:TE):TE:=fun σ H Q=>ta σ H fun x H1=>tb σ H1 fun y H2=>r x y H2 Q
def tUn (r:V->Hp->VK->Prop)(ta:TE):TE:=fun σ H Q=>ta σ H fun x H1=>r x H1 Q
def rI (C:Int->Int->Prop)(g:Int->Int->V):R2:=fun x y H Q=>∃i j,x=.int i/\y=.int j/\C i j/\Q (g i j) H
def rI0 (g:Int->Int->V):R2:=fun x y H Q=>∃i j,x=.int i/\y=.int j/\Q (g i j) H
def rU (g:Int->V):V->Hp->VK->Prop:=fun x H Q=>∃i,x=.int i/\Q (g i) H
section
variable {X:Cx} {a b c:Expr} {ta tb tc:TE} {pos:Pos}
theorem binT (ha:PE X a ta)(hb:PE X b tb){pins:List (Addr×Obj)}{s:Shared}{σ:St}{H:Hp}{R:V->V->Hp->Prop}(I:Inv X pins σ H s)(h:ta σ H fun x H1=>tb σ H1 fun y H2=>R x y H2){Q:Value->Shared->Prop}{f:Value->Value->Sem Value}(hf:∀v u s2 x y H2,Inv X pins σ H2 s2->RelV x v->RelV y u->R x y H2->wpAny (model X.prog X.w) X.A (f v u) Q X.xe s2) :
  wpAny (model X.prog X.w) X.A (eval a X.env) (fun v s₁=>wpAny (model X.prog X.w) X.A (eval b X.env) (fun u s₂=>wpAny (model X.prog X.w) X.A (f v u) Q X.xe s₂) X.xe s₁) X.xe s:=by
 refine thn (ha pins s σ H _ I h) fun v s1 ⟨x,H1,I1,r1,q1⟩=>?_
 refine thn (hb pins s1 σ H1 _ I1 q1) fun u s2 ⟨y,H2,I2,r2,q2⟩=>?_
 exact hf v u s2 x y H2 I2 r1 r2 q2
theorem pe_op {op:Operator}{r:R2}(ho:OpR X (binaryOp op) r)(ha:PE X a ta)(hb:PE X b tb):PE X (.BinOp a op b pos) (tOp r ta tb):=by
 intro pins s σ H Q I h
 exact wpAny_BinOp (binT ha hb I h fun v u s2 x y H2 I2 rx ry q=>ho pins s2 σ H2 x y v u Q I2 rx ry q)
theorem pe_un {op:UnaryOp}{r:V->Hp->VK->Prop}(ho:UnR X (unaryOp op) r)(ha:PE X a ta):PE X (.UnaryOp op a pos) (tUn r ta):=by
 intro pins s σ H Q I h
 exact UnaryOp_ (thn (ha pins s σ H _ I h) fun v s1 ⟨x,H1,I1,r1,q1⟩=>ho pins s1 σ H1 x v Q I1 r1 q1)
theorem opI {f:Value->Value->Sem Value}{C:Int->Int->Prop}{g:Int->Int->Int}(rule:∀(i j:Int) (t u:Tok) (s:Shared) (Q:Value->Shared->Prop) (E:Value->Shared->Prop),C i j->Q (.int (g i j) s.toks) { s with toks:=s.toks+1 }->wpAny (model X.prog X.w) X.A (f (.int i t) (.int j u)) Q E s) :
  OpR X f (rI C fun i j=>.int (g i j)):=by
 intro pins s σ H x y v u Q I rx ry h
 obtain⟨i,j,rfl,rfl,hc,q⟩:=h
 obtain⟨t,rfl⟩:=rx
 obtain⟨t',rfl⟩:=ry
 exact rule i j t t' s _ _ hc ⟨.int (g i j),H,I.tok _,⟨_,rfl⟩,q⟩
theorem opI0 {f:Value->Value->Sem Value}{g:Int->Int->Int}(rule:∀(i j:Int) (t u:Tok) (s:Shared) (Q:Value->Shared->Prop) (E:Value->Shared->Prop),Q (.int (g i j) s.toks) { s with toks:=s.toks+1 }->wpAny (model X.prog X.w) X.A (f (.int i t) (.int j u)) Q E s) :
  OpR X f (rI0 fun i j=>.int (g i j)):=by
 intro pins s σ H x y v u Q I rx ry h
 obtain⟨i,j,rfl,rfl,q⟩:=h
 obtain⟨t,rfl⟩:=rx
 obtain⟨t',rfl⟩:=ry
 exact rule i j t t' s _ _ ⟨.int (g i j),H,I.tok _,⟨_,rfl⟩,q⟩
theorem opB0 {f:Value->Value->Sem Value}{g:Int->Int->Bool}(rule:∀(i j:Int) (t u:Tok) (s:Shared) (Q:Value->Shared->Prop) (E:Value->Shared->Prop),Q (.bool (g i j)) s->wpAny (model X.prog X.w) X.A (f (.int i t) (.int j u)) Q E s) :
  OpR X f (rI0 fun i j=>.bl (g i j)):=by
 intro pins s σ H x y v u Q I rx ry h
 obtain⟨i,j,rfl,rfl,q⟩:=h
 obtain⟨t,rfl⟩:=rx
 obtain⟨t',rfl⟩:=ry
 exact rule i j t t' s _ _ ⟨.bl (g i j),H,I,rfl,q⟩
def CPow (i j:Int):Prop:=0<=j/\j<=1000000/\i.natAbs<2 ^ 64
def CMul (i j:Int):Prop:=(-(2 ^ 64)<i/\i<2 ^ 64)\/(-(2 ^ 64)<j/\j<2 ^ 64)
theorem CMul.ok {i j:Int}(h:CMul i j):IntMulOk i j:=by
 rcases h with⟨h1,h2⟩|⟨h1,h2⟩
 ·exact .of_left (intBits_le_64 h1 h2)
 ·exact .of_right (intBits_le_64 h1 h2)
theorem op_add:OpR X (binaryOp .Add) (rI0 fun i j=>.int (i+j)):=opI0 fun _ _ _ _ _ _ _ q=>add_int q
theorem op_sub:OpR X (binaryOp .Sub) (rI0 fun i j=>.int (i - j)):=opI0 fun _ _ _ _ _ _ _ q=>sub_int q
theorem op_modN:OpR X (binaryOp .Mod) (rI (fun _ j=>j≠0) fun i j=>.int (i.fmod j)):=opI fun _ _ _ _ _ _ _ hc q=>mod_int' hc q
theorem op_pow:OpR X (binaryOp .Pow) (rI CPow fun i j=>.int (i ^ j.toNat)):=opI fun _ _ _ _ _ _ _ hc q=>pow_int_small hc.1 hc.2.1 hc.2.2 q
theorem unI {f:Value->Sem Value}{g:Int->Int}(rule:∀(i:Int) (t:Tok) (s:Shared) (Q:Value->Shared->Prop) (E:Value->Shared->Prop),Q (.int (g i) s.toks) { s with toks:=s.toks+1 }->wpAny (model X.prog X.w) X.A (f (.int i t)) Q E s) :
  UnR X f (rU fun i=>.int (g i)):=by
 intro pins s σ H x v Q I rx h
 obtain⟨i,rfl,q⟩:=h
 obtain⟨t,rfl⟩:=rx
 exact rule i t s _ _ ⟨.int (g i),H,I.tok _,⟨_,rfl⟩,q⟩
theorem un_neg:UnR X (unaryOp .USub) (rU fun i=>.int (-i)):=unI fun _ _ _ _ _ q=>neg_int q
end
section
variable {X:Cx} {a b c:Expr} {ta tb tc:TE} {pos:Pos}
theorem op_lt:OpR X (compareOp .Lt) (rI0 fun i j=>.bl (decide (i<j))):=opB0 fun _ _ _ _ _ _ _ q=>lt_int q
theorem op_gt:OpR X (compareOp .Gt) (rI0 fun i j=>.bl (decide (j<i))):=opB0 fun _ _ _ _ _ _ _ q=>gt_int q
theorem op_ge:OpR X (compareOp .GtE) (rI0 fun i j=>.bl (decide (j<=i))):=opB0 fun _ _ _ _ _ _ _ q=>ge_int q
theorem OpR.or {f:Value->Value->Sem Value}{r r':R2}(h:OpR X f r)(h':OpR X f r'):OpR X f (fun x y H Q=>r x y H Q\/r' x y H Q):=by
 intro pins s σ H x y v u Q I rx ry q
 rcases q with q|q
 ·exact h pins s σ H x y v u Q I rx ry q
 ·exact h' pins s σ H x y v u Q I rx ry q
theorem nomark (b:Expr){op:CmpOp}(h:op≠.In:=by decide)(h2:op≠.NotIn:=by decide):behindInMarks op b=false:=by
 have e1:(op==CmpOp.In)=false:=by cases op<;>first|rfl|exact absurd rfl h
 have e2:(op==CmpOp.NotIn)=false:=by cases op<;>first|rfl|exact absurd rfl h2
 cases b<;>simp[behindInMarks,e1,e2]
theorem pe_cmpR {op:CmpOp}{r:R2}(ho:OpR X (compareOp op) r)(ha:PE X a ta)(hb:PE X b tb)(hm:behindInMarks op b=false):PE X (.Compare a [op] [b] pos) (tOp r ta tb):=by
 intro pins s σ H Q I h
 exact wpAny_Compare1 (binT ha hb I h fun v u s2 x y H2 I2 rx ry q=>ho pins s2 σ H2 x y v u Q I2 rx ry q) hm
def tTest (t:TE):TT:=fun σ H Q=>t σ H fun x H'=>∃k,x=.bl k/\Q k H'
theorem pt_cmpR {op:CmpOp}{r:R2}(ho:OpR X (compareOp op) r)(ha:PE X a ta)(hb:PE X b tb)(hm:behindInMarks op b=false):PT X (.Compare a [op] [b] pos) (tTest (tOp r ta tb)):=by
 intro pins s σ H Q I h
 refine wpAny_isTrue_Compare1 (thn (ha pins s σ H _ I h) fun v s1 ⟨x,H1,I1,r1,q1⟩=>thn (hb pins s1 σ H1 _ I1 q1) fun u s2 ⟨y,H2,I2,r2,q2⟩ =>
  thn (ho pins s2 σ H2 x y v u _ I2 r1 r2 q2) fun c s3 ⟨z,H3,I3,r3,k,e,q3⟩=>?_) hm
 subst e
 cases r3
 exact wpAny_truthy_bool ⟨H3,I3,q3⟩
theorem line63:(sizeLine:Nat)<2 ^ 63:=by rw[sizeLine_eq];decide
theorem op_add_str:OpR X (binaryOp .Add) (fun x y H Q=>∃i j,x=.str i/\y=.str j/\i.length+j.length<=sizeLine/\Q (.str (i++j)) H):=by
 intro pins s σ H x y v u Q I rx ry h
 obtain⟨i,j,rfl,rfl,hz,q⟩:=h
 obtain⟨t,rfl⟩:=rx
 obtain⟨t',rfl⟩:=ry
 exact add_str (fun t' tk=>⟨.str (i++j),H,I.tok _,⟨_,rfl⟩,q⟩) hz
theorem vals1 {x:V}{us:List Value}(r:Vals [x] us):∃u,us=[u]/\RelV x u:=by
 cases r with
 |cons r1 r2=>cases r2;exact⟨_,rfl,r1⟩
theorem vals2 {x y:V}{us:List Value}(r:Vals [x,y] us):∃u w',us=[u,w']/\RelV x u/\RelV y w':=by
 cases r with
 |cons r1 r2 =>
  cases r2 with
  |cons r3 r4=>cases r4;exact⟨_,_,rfl,r1,r3⟩
theorem call_abs:CallR X (.builtin "abs") (fun xs H Q=>∃i,xs=[.int i]/\Q (.int (if i<0 then -i else i)) H):=by
 intro pins s σ H xs us Q I r h
 obtain⟨i,rfl,q⟩:=h
 obtain⟨u,rfl,t,rfl⟩:=vals1 r
 exact call_abs_int fun u tk=>⟨.int (if i<0 then -i else i),H,I.tok _,⟨_,rfl⟩,q⟩
theorem call_int1:CallR X (.type "int") (fun xs H Q=>(∃i,xs=[.int i]/\Q (.int i) H)\/∃k,xs=[.bl k]/\Q (.int (if k then 1 else 0)) H):=by
 intro pins s σ H xs us Q I r h
 rcases h with⟨i,rfl,q⟩|⟨k,rfl,q⟩
 ·obtain⟨u,rfl,t,rfl⟩:=vals1 r
  exact call_int_int ⟨.int i,H,I,⟨_,rfl⟩,q⟩
 ·obtain⟨u,rfl,r1⟩:=vals1 r
  cases r1
  exact call_int_bool ⟨.int (if k then 1 else 0),H,I.tok _,⟨_,rfl⟩,q⟩
end
end L2
namespace L2
open PySem PySem.Spec PyProof.Rows
structure ObjM (h:Heap) (x dx C:Addr) (mA:Str->Option Value):Prop where
 obj:h.get? x=some (PySem.W.instObj C dx)
 ns:h.Ns1 dx mA
 ne:dx≠x
section
variable {prog:Program} {w:World} {A:Around} {E:Value->Shared->Prop} {s:Shared} {K:PySem.W.Frag} {x dx C f:Addr} {mA:Str->Option Value} {name:Str} {v:Value}
end
theorem RelO.some_of {v:V}{o:Option Value}(r:RelO (some v) o):∃u,o=some u/\RelV v u:=by
 cases o with
 |none=>exact(show False from r).elim
 |some u=>exact⟨u,rfl,r⟩
theorem RelO.none_of {o:Option Value}(r:RelO none o):o=none:=by
 cases o with
 |none=>rfl
 |some u=>exact(show False from r).elim
section
variable {P:Program} {w:World} {H H':Hp} {h h':Heap} {a C dx:Addr} {fs fs':List (Str×V)}
end
structure Cls (K:PySem.W.Frag) (C:Addr):Prop where
 pg:PySem.W.plainGet K C Str.empty=true
 hd:PySem.W.hasDictIn K C=true
 po:PySem.W.plainOver K C=true
 sa:PySem.W.findIn K (.ref C) "__setattr__" = some (some (.builtin "object.__setattr__"))
theorem Cls.get {K:PySem.W.Frag}{C:Addr}(c:Cls K C)(f:Str):PySem.W.plainGet K C f=true:=c.pg
structure Con (K:PySem.W.Frag) (C:Addr) (f:Str) (v:V) (u:Value):Prop where
 at_:PySem.W.findIn K (.ref C) f=some (some u)
 rel:RelV v u
 get:PySem.W.specialIn K u "__get__" = some none
 cp:PySem.W.copiedNames.contains f=false
structure Meth (K:PySem.W.Frag) (C:Addr) (m:Str) (f:Addr):Prop where
 at_:PySem.W.findIn K (.ref C) m=some (some (.ref f))
 fn:PySem.W.isFn K (.ref f)=true
 kp:PySem.W.keepIn K (.ref f)=true
section
variable {X:Cx} {pins:List (Addr×Obj)} {σ:St} {H:Hp} {s:Shared} {a C dx:Addr} {fs:List (Str×V)} {f:Str} {v:V} {A:Around} {E:Value->Shared->Prop}
theorem Inv.made (I:Inv X pins σ H s):Inv X pins σ (upd (upd H s.heap.objs.size (.own (s.heap.objs.size+1))) (s.heap.objs.size+1) (.ins C s.heap.objs.size []))
  { s with heap:=(s.heap.push PySem.W.emptyDict).push (PySem.W.instObj C s.heap.objs.size) }:=by
 have e1:(s.heap.push PySem.W.emptyDict).get? s.heap.objs.size=some PySem.W.emptyDict:=Heap.get?_push_size s.heap rfl
 have e2:((s.heap.push PySem.W.emptyDict).push (PySem.W.instObj C s.heap.objs.size)).get? (s.heap.objs.size+1)=some (PySem.W.instObj C s.heap.objs.size):=by
  have:=Heap.get?_push_size (s.heap.push PySem.W.emptyDict) (o:=PySem.W.instObj C s.heap.objs.size) rfl
  rwa[Heap.size_push] at this
 have e3:(s.heap.push PySem.W.emptyDict).Ns s.heap.objs.size (fun _=>none):=⟨PySem.W.emptyDict,#[],_,e1,rfl,(fun e he=>absurd he (by simp)),fun _=>rfl⟩
 have I1:=I.laid (a:=s.heap.objs.size) (o:=.own (s.heap.objs.size+1)) (h':=s.heap.push PySem.W.emptyDict) (t':=s.toks) (fun b u q=>Heap.get?_push_of_some _ q) (Nat.le_refl _) ⟨_,e1⟩
 refine I1.laid (a:=s.heap.objs.size+1) (o:=.ins C s.heap.objs.size []) (t':=s.toks) (fun b u q=>Heap.get?_push_of_some _ q) (Nat.le_of_eq (Heap.size_push _ _)) ?_
 have ne:s.heap.objs.size≠s.heap.objs.size+1:=Nat.ne_of_lt (Nat.lt_succ_self _)
 refine⟨by rw[upd_ne ne,upd_same],Nat.zero_le _,ne,e2,fun _=>none,(Heap.Ns1.of_empty e3).at fun o q=>Heap.get?_push_of_some _ q,fun _=>True.intro,fun y hy=>absurd rfl hy⟩
end
section
variable {X:Cx} {o e value:Expr} {f:Str} {pos pos' tpos:Pos} {ta tv:TE}
end
section
variable {X:Cx} {pins:List (Addr×Obj)} {σ:St} {H:Hp} {s:Shared} {A:Around} {E:Value->Shared->Prop} {Q:Value->Shared->Prop} {c:Value} {b:Bool}
inductive TyOf (K:PySem.W.Frag) (H:Hp):V->Value->Prop where
 |non:TyOf K H .non (.type "NoneType")
 |bl (x:Bool):TyOf K H (.bl x) (.type "bool")
 |int (i:Int):TyOf K H (.int i) (.type "int")
 |str (x:Str):TyOf K H (.str x) (.type "str")
 |flt (x:UInt64):TyOf K H (.flt x) (.type "float")
 |lst {a:Addr} {xs:List V} (e:H a=some (.lst xs)):TyOf K H (.ref a) (.type "list")
 |frz {a:Addr} {o:Obj} {xs:List V} (e:H a=some (.frz o (.lst xs))):TyOf K H (.ref a) (.type "list")
 |tup {a:Addr} {xs:List V} (e:H a=some (.tup xs)):TyOf K H (.ref a) (.type "tuple")
 |dK {a:Addr} {kvs:List (Key×V)} (e:H a=some (.dK kvs)):TyOf K H (.ref a) (.type "dict")
 |dT {a:Addr} {kvs:List (List Key×V)} (e:H a=some (.dT kvs)):TyOf K H (.ref a) (.type "dict")
 |ins {a C dx:Addr} {fs:List (Str×V)} (e:H a=some (.ins C dx fs)) (cl:Cls K C) (ha:PySem.W.findIn K (.ref C) "__class__" = some (some (.builtin "object.__class__")))
   (hn:PySem.W.specialIn K (.builtin "object.__class__") "__get__" = some (some (.builtin "getset_descriptor.__get__"))) (htk:PySem.W.takesIn K (.builtin "object.__class__")=some true)
   (hm:PySem.W.mroIn K C (.type "object")=some true):TyOf K H (.ref a) (.ref C)
end
end L2
namespace L2
open PySem PySem.Spec PyProof.Rows
structure Room (k:Nat) (A:Around):Prop where
 hd:A.handled=none
 dp:A.depth+3*k+5<recursionLimit
 un:A.units+16*k+200<cLine
theorem Room.mono {j k:Nat}{A:Around}(r:Room k A)(h:j<=k):Room j A:=⟨r.hd,by have:=r.dp;omega,by have:=r.un;omega⟩
theorem Room.deeper {k:Nat}{A:Around}(r:Room (k+1) A)(env:Env):Room k (A.deeper env) :=
 ⟨r.hd,by have:=r.dp;show A.depth+1+3*k+5<_;omega,by have:=r.un;show A.units+3+16*k+200<_;omega⟩
theorem Room.in1 {k:Nat}{A:Around}(r:Room (k+1) A):Room k A.in1 :=
 ⟨r.hd,by have:=r.dp;show A.depth+3*k+5<_;omega,by have:=r.un;show A.units+1+16*k+200<_;omega⟩
theorem Room.depth {k:Nat}{A:Around}(r:Room k A):A.depth<recursionLimit:=by have:=r.dp;omega
theorem Room.units {k:Nat}{A:Around}(r:Room k A):A.units+64<cLine:=by have:=r.un;omega
def tNil:TA:=fun _ H Q=>Q [] H
def tCons (ta:TE)(tr:TA):TA:=fun σ H Q=>ta σ H fun x H1=>tr σ H1 fun xs H2=>Q (x::xs) H2
section
variable {X:Cx} {e:Expr} {es:List Expr} {te:TE} {t:TA} {pos:Pos}
theorem pa_nil:PA X [] tNil:=fun _ _ _ _ H Q I h=>Calls.spliced_nil ⟨[],H,I,.nil,h⟩
theorem pa_cons (ha:PE X e te)(hr:PA X es t)(hs:starEach (e::es) X.env=(false,eval e X.env)::starEach es X.env:=by rfl):PA X (e::es) (tCons te t):=by
 intro pos pins s σ H Q I h
 rw[hs]
 show wpAny _ _ (spliced ((false,eval e X.env)::backTo pos (starEach es X.env))) _ _ s
 refine Calls.spliced_cons (thn (ha pins s σ H _ I h) fun u s1 ⟨x,H1,I1,r1,q1⟩=>?_)
 exact thn (hr pos pins s1 σ H1 _ I1 q1) fun us s2 ⟨xs,H2,I2,r2,q2⟩=>⟨x::xs,H2,I2,.cons r1 r2,q2⟩
def tTup (t:TA):TE:=fun σ H Q=>t σ H fun xs H1=>xs.length<=sizeLine/\∀p,H1 p=none->Q (.ref p) (upd H1 p (.tup xs))
def tLst (t:TA):TE:=fun σ H Q=>t σ H fun xs H1=>xs.length<=sizeLine/\∀p,H1 p=none->Q (.ref p) (upd H1 p (.lst xs))
theorem pe_tup {x1}(h:PA X es t):PE X (.Tuple es x1 pos) (tTup t):=by
 intro pins s σ H Q I hq
 refine wpAny_Tuple_spliced (thn (h pos pins s σ H _ I hq) fun us s1 ⟨xs,H1,I1,r,z,q⟩=>⟨by rw[<-r.length];exact z,?_⟩)
 have hf:H1 s1.heap.objs.size=none:=I1.hok.fresh (Nat.le_refl _)
 refine⟨.ref s1.heap.objs.size,upd H1 s1.heap.objs.size (.tup xs),I1.laid (t':=s1.toks) (fun b u e=>Heap.get?_push_of_some _ e) (Nat.le_refl _) ?_,rfl,q _ hf⟩
 exact⟨z,us,r,⟨_,Heap.get?_push_size _ rfl,rfl,_,rfl⟩⟩
theorem pe_lst (h:PA X es t):PE X (.List es pos) (tLst t):=by
 intro pins s σ H Q I hq
 refine wpAny_List_spliced (thn (h pos pins s σ H _ I hq) fun us s1 ⟨xs,H1,I1,r,z,q⟩=>⟨by rw[<-r.length];exact z,?_⟩)
 have hf:H1 s1.heap.objs.size=none:=I1.hok.fresh (Nat.le_refl _)
 refine⟨.ref s1.heap.objs.size,upd H1 s1.heap.objs.size (.lst xs),I1.laid (t':=s1.toks) (fun b u e=>Heap.get?_push_of_some _ e) (Nat.le_refl _) ?_,rfl,q _ hf⟩
 exact⟨z,us,0,r,Heap.get?_push_size _ rfl⟩
end
abbrev Sp:=List V->Hp->VK->XK->Prop
abbrev CXT:=List Env->Hp->Shared->XK->Value->Shared->Prop
structure Env0 (P:Program) (w:World) (K:PySem.W.Frag) (mg:Str->Option Value) (base:Heap) (A:Around) (outer:List Env) (s:Shared) (H:Hp):Prop where
 frames:A.frames=some outer
 mod:Mod K mg base
 bs:∀b o,base.get? b=some o->s.heap.get? b=some o/\H b=none
 bsz:base.objs.size<=s.heap.objs.size
 funs:s.heap.FunFrames base outer
 frf:∀b∈frs outer,H b=none
 hok:HOk P w H s.heap
 bare:AllBare s.gens
def CE (outer:List Env)(P:Program)(w:World)(H:Hp)(s:Shared)(Q:VK)(u:Value)(s':Shared):Prop :=
 ∃v H',s'.os=s.os/\AllBare s'.gens/\Un (frs outer) [] H H' s.heap s'.heap/\HOk P w H' s'.heap/\RelV v u/\Q v H'
def CR (CX:CXT)(outer:List Env)(P:Program)(w:World)(H:Hp)(s:Shared)(Q:VK)(E:XK)(r:Result)(s':Shared):Prop :=
 match r with
 |.ok (.ret u)=>CE outer P w H s Q u s'
 |.ok _=>False
 |.error e=>CX outer H s E e s'
structure FnOk (P:Program) (w:World) (K:PySem.W.Frag) (mg:Str->Option Value) (base:Heap) (CX:CXT) (k:Nat) (f:Addr) (fd:FuncData) (ps:List Str) (sp:Sp):Prop where
 len:∀vs H Q E,sp vs H Q E->vs.length=ps.length
 run:∀(A:Around) (outer:List Env) (s:Shared) (H:Hp) (args:Args) (us:List Value) (vs:List V) (Q:VK) (E:XK),Room k A->Env0 P w K mg base A outer s H->BindsTo s fd args (ps.zip us)->Vals vs us->sp vs H Q E ->
  codeAny (model P w) A (.call (.ref f) args) (CR CX outer P w H s Q E) s
theorem FnOk.mono {P:Program}{w:World}{K:PySem.W.Frag}{mg:Str->Option Value}{base:Heap}{CX:CXT}{j k:Nat}{f:Addr}{fd:FuncData}{ps:List Str}{sp:Sp}(F:FnOk P w K mg base CX j f fd ps sp)(h:j<=k) :
  FnOk P w K mg base CX k f fd ps sp:=⟨F.len,fun A outer s H args us vs Q E hr=>F.run A outer s H args us vs Q E (hr.mono h)⟩
theorem FnOk.imp {P:Program}{w:World}{K:PySem.W.Frag}{mg:Str->Option Value}{base:Heap}{CX:CXT}{k:Nat}{f:Addr}{fd:FuncData}{ps:List Str}{sp sp':Sp}(F:FnOk P w K mg base CX k f fd ps sp)(h:∀vs H Q E,sp' vs H Q E->sp vs H Q E):FnOk P w K mg base CX k f fd ps sp' :=
 ⟨fun vs H Q E q=>F.len vs H Q E (h _ _ _ _ q),fun A outer s H args us vs Q E hr he hb hv hs=>F.run A outer s H args us vs Q E hr he hb hv (h _ _ _ _ hs)⟩
theorem Env0.in1 {P:Program}{w:World}{K:PySem.W.Frag}{mg:Str->Option Value}{base:Heap}{A:Around}{outer:List Env}{s:Shared}{H:Hp}(e:Env0 P w K mg base A outer s H) :
  Env0 P w K mg base A.in1 outer s H:=⟨e.frames,e.mod,e.bs,e.bsz,e.funs,e.frf,e.hok,e.bare⟩
section
variable {X:Cx} {pins:List (Addr×Obj)} {σ:St} {H:Hp} {s s':Shared}
theorem Inv.env0 (I:Inv X pins σ H s):Env0 X.prog X.w X.K X.mg X.base X.A X.stack s H :=
 ⟨I.ok.frames,I.ok.mod,I.bs,Nat.le_trans I.ok.bsz I.sz,I.stack,I.stkFree,I.hok,I.bare⟩
theorem Inv.after {Q:VK}{u:Value}(I:Inv X pins σ H s)(h:CE X.stack X.prog X.w H s Q u s'):EP X pins σ Q u s':=by
 obtain⟨v,H',os,bare,un,hok,r,q⟩:=h
 obtain⟨hh,g,d,t,os'⟩:=s'
 obtain rfl:os'=s.os:=os
 exact⟨v,H',I.call (h':=hh) (g':=g) (d':=d) (t':=t) (ch:=[]) un hok bare (fun b z=>absurd z (by simp)),r,q⟩
end
def tCall (sp:Sp)(dvs:List V)(E:XK)(t:TA):TE:=fun σ H Q=>t σ H fun vs H1=>sp (vs++dvs) H1 Q E
def Binds (K:PySem.W.Frag)(fd:FuncData)(ps:List Str)(ds:List Value):Prop :=
 ∀(s:Shared) (us:List Value),K.In s.heap->(us++ds).length=ps.length->BindsTo s fd ⟨us,[]⟩ (ps.zip (us++ds))
theorem Binds.all {K:PySem.W.Frag}{fd:FuncData}{ps:List Str}(h:∀us:List Value,us.length=ps.length->bindArgs fd ⟨us,[]⟩=pure (ps.zip us)):Binds K fd ps []:=fun s us _ hl=>by
 rw[List.append_nil] at hl ⊢
 exact .of_eq (h us hl)
def Passes (CX:CXT)(X:Cx)(E:XK):Prop:=∀(pins:List (Addr×Obj)) (σ:St) (H:Hp) (s:Shared) (e:Value) (s':Shared),Inv X pins σ H s->CX X.stack H s E e s'->X.xe e s'
section
variable {X:Cx} {CX:CXT} {k:Nat} {f C:Addr} {fd:FuncData} {ps:List Str} {sp:Sp} {dvs:List V} {ds:List Value} {E:XK} {x m:Str} {p pos apos:Pos} {e o:Expr} {es:List Expr} {ta:TE} {t:TA}
theorem run_fn {pins:List (Addr×Obj)}{σ:St}{H:Hp}{s:Shared}{Q:VK}{us:List Value}{vs:List V}(F:FnOk X.prog X.w X.K X.mg X.base CX k f fd ps sp)(hr:Room k X.A)(hb:Binds X.K fd ps ds)(hd:Vals dvs ds)(hx:Passes CX X E)(I:Inv X pins σ H s)(r:Vals vs us)(h:sp (vs++dvs) H Q E):wpAny (model X.prog X.w) X.A (call (.ref f) us) (EP X pins σ Q) X.xe s:=by
 have r2:Vals (vs++dvs) (us++ds):=r.append hd
 have hl:(us++ds).length=ps.length:=by rw[<-r2.length];exact F.len _ _ _ _ h
 refine wpAny_call (codeAny_mono (F.run X.A X.stack s H ⟨us,[]⟩ (us++ds) (vs++dvs) Q E hr I.env0 (hb s us I.kIn hl) r2 h) fun r s' hq=>?_)
 cases r with
 |error e=>exact hx pins σ H s e s' I hq
 |ok fl =>
  cases fl with
  |ret u=>exact I.after hq
  |next=>exact False.elim hq
  |brk=>exact False.elim hq
  |cont=>exact False.elim hq
theorem pe_call (F:FnOk X.prog X.w X.K X.mg X.base CX k f fd ps sp)(hr:Room k X.A)(hg:Gl X x)(hm:X.mg x=some (.ref f))(hk:PySem.W.keepIn X.K (.ref f)=true)(hb:Binds X.K fd ps ds)(hd:Vals dvs ds)(hx:Passes CX X E)(ha:PA X (e::es) t) (hdb:(x==("__debug__" : Str))=false:=by decide) (he:starEach (e::es) X.env=(false,eval e X.env)::starEach es X.env:=by rfl) (hpl:(backTo pos (starEach es X.env)).any (·.1)=false:=by rfl) :
  PE X (.Call (.Name x p) (e::es) [] pos) (tCall sp dvs E t):=by
 intro pins s σ H Q I h
 refine wpAny_Call_Name_kw (ld_glob I hg hm ?_ hdb)
 refine PySem.W.callWith_K (h₀:=X.base) I.ok.mod.kin hk (thn (ha pos pins s σ H _ I h) fun us s1 ⟨vs,H1,I1,r,q⟩=>⟨I1.kIn,?_⟩) he hpl
 exact run_fn F hr hb hd hx I1 r q
structure Mk (K:PySem.W.Frag) (C f:Addr):Prop where
 makes:PySem.W.makesIn K C=true
 init:PySem.W.findIn K (.ref C) "__init__" = some (some (.ref f))
 fn:PySem.W.isFn K (.ref f)=true
 kp:PySem.W.keepIn K (.ref C)=true
end
section
variable {X:Cx} {CX:CXT} {k:Nat} {f C:Addr} {fd:FuncData} {ps ks:List Str} {sp:Sp} {E:XK} {x m:Str} {p pos apos kpos:Pos} {e o:Expr} {es:List Expr} {kws:List Keyword} {te ta:TE} {t tk:TA} {nm:Option Str}
structure KBinds (K:PySem.W.Frag) (fd:FuncData) (ps ks:List Str) (g:List Value->List Value->List Value) (gV:List V->List V->List V):Prop where
 to:∀(s:Shared) (us ws:List Value),K.In s.heap->(g us ws).length=ps.length->BindsTo s fd ⟨us,ks.zip ws⟩ (ps.zip (g us ws))
 rel:∀{vs:List V} {us:List Value} {zs:List V} {ws:List Value},Vals vs us->Vals zs ws->Vals (gV vs zs) (g us ws)
variable {g:List Value->List Value->List Value} {gV:List V->List V->List V}
end
structure FnScope (N P:List Str) (sc:Scope):Prop where
 kind:sc.kind=.function
 co:sc.isCoroutine=false
 gen:sc.isGenerator=false
 nd:N.Nodup
 pre:N.take P.length=P
 par:∀x∈P,sc.names.lookup x=some .local\/sc.names.lookup x=some .cell
 nofree:∀y∈sc.names,y.2≠.free
theorem bindL_out {kindOf:Str->Option NameKind}{x:Str}:∀{binds:List (Str×Value)} {m:Str->Option Value},(∀v,(x,v) ∉ binds)->bindL kindOf binds m x=m x
 |[],_,_=>rfl
 |(n,v)::r,m,h=>by
  unfold bindL
  rw[bindL_out fun w hw=>h w (List.mem_cons_of_mem _ hw)]
  split
  ·have:x≠n:=by rintro rfl;exact h v List.mem_cons_self
   simp[this]
  ·rfl
theorem bindC_out {kindOf:Str->Option NameKind}{x:Str}:∀{binds:List (Str×Value)} {m:Str->Option Value},(∀v,(x,v) ∉ binds)->bindC kindOf binds m x=m x
 |[],_,_=>rfl
 |(n,v)::r,m,h=>by
  unfold bindC
  rw[bindC_out fun w hw=>h w (List.mem_cons_of_mem _ hw)]
  split
  ·rfl
  ·have:x≠n:=by rintro rfl;exact h v List.mem_cons_self
   simp[this]
theorem bindL_get {kindOf:Str->Option NameKind}{x:Str}{v:Value}:∀{P:List Str} {vs:List Value} {i:Nat} {m:Str->Option Value},P.Nodup->P[i]?=some x->vs[i]?=some v->kindOf x=some .local ->
  bindL kindOf (P.zip vs) m x=some v
 |[],_,_,_,_,h,_,_=>by simp at h
 |_::_,[],_,_,_,_,h,_=>by simp at h
 |p::P,w::vs,0,m,nd,h1,h2,hk=>by
  simp at h1 h2;subst h1;subst h2
  show bindL kindOf ((p,w)::P.zip vs) m p=_
  unfold bindL
  rw[bindL_out fun v hv=>(List.nodup_cons.mp nd).1 (List.of_mem_zip hv).1,if_pos hk]
  simp
 |p::P,w::vs,i+1,m,nd,h1,h2,hk=>by
  show bindL kindOf ((p,w)::P.zip vs) m x=_
  unfold bindL
  exact bindL_get (i:=i) (List.nodup_cons.mp nd).2 (by simpa using h1) (by simpa using h2) hk
theorem bindC_get {kindOf:Str->Option NameKind}{x:Str}{v:Value}:∀{P:List Str} {vs:List Value} {i:Nat} {m:Str->Option Value},P.Nodup->P[i]?=some x->vs[i]?=some v->kindOf x≠some .local ->
  bindC kindOf (P.zip vs) m x=some v
 |[],_,_,_,_,h,_,_=>by simp at h
 |_::_,[],_,_,_,_,h,_=>by simp at h
 |p::P,w::vs,0,m,nd,h1,h2,hk=>by
  simp at h1 h2;subst h1;subst h2
  show bindC kindOf ((p,w)::P.zip vs) m p=_
  unfold bindC
  rw[bindC_out fun v hv=>(List.nodup_cons.mp nd).1 (List.of_mem_zip hv).1,if_neg hk]
  simp
 |p::P,w::vs,i+1,m,nd,h1,h2,hk=>by
  show bindC kindOf ((p,w)::P.zip vs) m x=_
  unfold bindC
  exact bindC_get (i:=i) (List.nodup_cons.mp nd).2 (by simpa using h1) (by simpa using h2) hk
def start (N:List Str)(vs:List V):St:=vs.map some++List.replicate (N.length - vs.length) none
def cxOf (CX:CXT)(P:Program)(w:World)(K:PySem.W.Frag)(mg:Str->Option Value)(base:Heap)(N:List Str)(qual:Str)(scope:Scope)(f:Addr)(cd:Value)(A:Around)(outer:List Env)(s:Shared)(H:Hp)(E:XK):Cx where
 prog:=P
 w:=w
 K:=K
 mg:=mg
 base:=base
 A:=A.deeper (envOfC qual scope s.heap.objs.size f cd)
 N:=N
 s₀:=s
 H₀:=H
 env:=envOfC qual scope s.heap.objs.size f cd
 outer:=outer
 stack:=envOfC qual scope s.heap.objs.size f cd::outer
 ex:=[]
 calm:=true
 fn:=fun _=>true
 pn:=[]
 xe:=fun e s'=>wpAny (model P w) (A.deeper (envOfC qual scope s.heap.objs.size f cd)) (leaving (envOfC qual scope s.heap.objs.size f cd) e) (fun _ s''=>CX outer H s E e s'') (fun e' s''=>CX outer H s E e' s'') s'
theorem cell_has {sc:Scope}{n:Nat}{x:Str}(h:sc.names.lookup x=some .cell):∃c,(cellsFrom n sc.names []).lookup x=some c:=by
 have q:=PySem.W.cellsFrom_some sc.names n [] (.inl h)
 exact Option.isSome_iff_exists.mp q
theorem inv_start {CX:CXT}{P:Program}{w:World}{K:PySem.W.Frag}{mg:Str->Option Value}{base:Heap}{N ps:List Str}{qual:Str}{scope:Scope}{f:Addr}{cd:Value}{A:Around}{outer:List Env}{s s1:Shared}{H:Hp}{E:XK}{us:List Value}{vs:List V}(S:FnScope N ps scope)(hd:A.handled=none)(e0:Env0 P w K mg base A outer s H)(hl:vs.length=ps.length)(r:Vals vs us)(x:InCallC s s.heap.objs.size (bindL (envOfC qual scope s.heap.objs.size f cd).kindOf (ps.zip us) fun _=>none) (cellsFrom (s.heap.objs.size+1) scope.names []) (bindC (envOfC qual scope s.heap.objs.size f cd).kindOf (ps.zip us) fun _=>none) s1) :
  Inv (cxOf CX P w K mg base N qual scope f cd A outer s H E) [] (start N vs) H s1:=by
 have hpl:ps.length<=N.length:=by have:=congrArg List.length S.pre;rw[List.length_take] at this;omega
 obtain⟨h1,tk,rfl,hk⟩:=x.done
 have noA:∀b:Addr,b ∉ (cxOf CX P w K mg base N qual scope f cd A outer s H E).ex:=fun b z=>absurd (show b∈([]:List Addr) from z) (by simp)
 refine⟨⟨e0.mod,S.kind,rfl,rfl,Nat.le_refl _,fun y z c h1 h2=>?_,fun y hy=>?_,fun y c _ h=>?_,fun _=>hd,Around.frames_deeper e0.frames,.inr ⟨rfl,rfl⟩,fun b z=>absurd z (noA b),e0.bs,e0.bsz,fun b _ _=>noA b,fun b z=>absurd z (noA b),e0.funs,e0.frf⟩,
  rfl,e0.bare,Un.kept hk,⟨_,x.toInCall.ns,fun i y v h1 h2 h3=>?_⟩,fun y c h=>⟨_,x.cell y c h⟩,e0.hok.fresh (Nat.le_refl _),fun y c h=>?_,fun p hp=>absurd (show p∈([]:List (Addr×Obj)) from hp) (by simp),e0.hok.kept hk,?_⟩
 ·exact name_of_addr x.apart (PySem.mem_of_lookup h1) (PySem.mem_of_lookup h2)
 ·have hy:scope.names.lookup y=some .cell\/scope.names.lookup y=some .free:=hy
  rcases hy with hy|hy
  ·exact cell_has hy
  ·exact absurd rfl (S.nofree _ (PySem.mem_of_lookup hy))
 ·exact Nat.le_of_lt (x.above y c (PySem.mem_of_lookup h))
 ·have hi:i<vs.length:=by
   unfold start at h2
   by_cases hi:i<vs.length
   ·exact hi
   ·rw[List.getElem?_append_right (by simpa using hi)] at h2
    rw[List.getElem?_replicate] at h2
    split at h2<;>cases h2
  have ha:vs[i]?=some v:=by
   unfold start at h2
   rw[List.getElem?_append_left (by simpa using hi),List.getElem?_map] at h2
   cases e:vs[i]? with
   |none=>rw[e] at h2;cases h2
   |some a=>rw[e] at h2;cases h2;rfl
  obtain⟨u,hu,rv⟩:=r.get ha
  have hp:ps[i]?=some y:=by
   rw[<-S.pre,List.getElem?_take_of_lt (by omega)];exact h1
  have ndP:ps.Nodup:=by rw[<-S.pre];exact S.nd.sublist (List.take_sublist _ _)
  refine⟨u,rv,?_⟩
  rcases S.par y (List.mem_of_getElem? hp) with k|k
  ·exact .inl ⟨k,bindL_get ndP hp hu k⟩
  ·obtain⟨c,e⟩:=cell_has (n:=s.heap.objs.size+1) k
   refine .inr ⟨.inl k,c,e,?_⟩
   have q:=x.cell y c e
   rw[bindC_get ndP hp hu (by show scope.names.lookup y≠_;rw[k];decide)] at q
   exact q
 ·exact e0.hok.fresh (Nat.le_of_lt (x.above y c (PySem.mem_of_lookup h)))
 ·unfold start
  show _=N.length
  rw[List.length_append,List.length_map,List.length_replicate]
  omega
theorem fn_of {CX:CXT}{P:Program}{w:World}{K:PySem.W.Frag}{mg:Str->Option Value}{base:Heap}{k:Nat}{f:Addr}{name qual:Str}{params:Arguments}{body:List Stmt}{scope:Scope}{dV kV doc pm cdv ct oc:Value}{an od:Option Addr}{osl:Array (Option Value)}{N ps:List Str}{sp:Sp}(lk:K.lookup f=some ⟨oc,od,.func (PySem.W.fnOf name qual params body scope dV kV doc pm an cdv ct),osl⟩)(hcd:PySem.W.codeIn K cdv qual=true)(S:FnScope N ps scope)(len:∀vs H Q E,sp vs H Q E->vs.length=ps.length)(hbody:∀(A:Around) (outer:List Env) (s:Shared) (H:Hp) (vs:List V) (Q:VK) (E:XK),Room k (A.deeper (envOfC qual scope s.heap.objs.size f cdv))->sp vs H Q E ->
   ∃t,PSs (cxOf CX P w K mg base N qual scope f cdv A outer s H E) body t/\t { nx:=fun _ H'=>Q .non H',rt:=Q } (start N vs) H) :
  FnOk P w K mg base CX (k+1) f (PySem.W.fnOf name qual params body scope dV kV doc pm an cdv ct) ps sp:=by
 refine⟨len,fun A outer s H args us vs Q E hr e0 hb r hsp=>?_⟩
 have hl:=len _ _ _ _ hsp
 have KX:K.In s.heap:=e0.mod.kin.keeps fun b o e=>(e0.bs b o e).1
 have lim:s.heap.NoLimit:=e0.mod.nolimit.keeps fun b o e=>(e0.bs b o e).1
 have hkind:∀y∈ps.zip us,scope.names.lookup y.1=some .local\/(scope.names.lookup y.1=some .cell/\((cellsFrom (s.heap.objs.size+1) scope.names []).lookup y.1).isSome=true):=fun⟨n,v⟩ hy=>by
  rcases S.par n (List.of_mem_zip hy).1 with q|q
  ·exact .inl q
  ·exact .inr ⟨q,PySem.W.cellsFrom_some _ _ _ (.inl q)⟩
 refine codeAny_call_function hr.depth (KX _ _ lk) rfl S.co S.gen rfl (PySem.W.codeRec_of KX hcd) (hb _ _ _ _ ?_)
 refine wpAny_newFunctionEnv_cells S.kind hkind fun env he s1 x=>?_
 subst he
 refine⟨lim.keeps x.toInCall.keep,codeAny_func ?_⟩
 obtain⟨t,ht,hq⟩:=hbody A outer s H vs Q E (hr.deeper _) hsp
 have I:Inv (cxOf CX P w K mg base N qual scope f cdv A outer s H E) [] (start N vs) H s1:=inv_start S hr.hd e0 hl r x
 refine wpAny_mono (ht [] s1 (start N vs) H _ I hq) (fun fl s' hs=>?_) fun e s' hs=>hs
 have fin:∀{σ':St} {H':Hp} {v:V} {u:Value},Inv (cxOf CX P w K mg base N qual scope f cdv A outer s H E) [] σ' H' s'->RelV v u->Q v H'->CE outer P w H s Q u s' :=
  fun {σ' H' v u} J rv q=>⟨v,H',J.os,J.bare,J.base,J.hok,rv,q⟩
 cases fl with
 |ret u =>
  obtain⟨v,σ',H',J,rv,q⟩:=hs
  exact fin J rv q
 |next =>
  obtain⟨σ',H',J,q⟩:=hs
  exact fin (v:=V.non) (u:=Value.none) J rfl q
 |brk =>
  obtain⟨_,_,_,q⟩:=hs
  exact False.elim q
 |cont =>
  obtain⟨_,_,_,q⟩:=hs
  exact False.elim q
end L2
namespace L2
open PySem PySem.Spec PyProof.Rows
section
variable {X:Cx} {x:Str} {p pos:Pos} {e:Expr} {es:List Expr} {t:TA} {id T:String} {r:List V->Hp->VK->Prop}
def tCB (r:List V->Hp->VK->Prop)(t:TA):TE:=fun σ H Q=>t σ H fun vs H1=>r vs H1 Q
theorem pe_callB (hc:CallR X (.builtin id) r)(hg:Gl X x)(hm:X.mg x=none)(hv:bootBuiltins x=some (.builtin id))(ha:PA X (e::es) t) (hn:x ≠ "__name__" := by decide) (hdb:(x==("__debug__" : Str))=false:=by decide)
  (he:starEach (e::es) X.env=(false,eval e X.env)::starEach es X.env:=by rfl) (hpl:(backTo pos (starEach es X.env)).any (·.1)=false:=by rfl):PE X (.Call (.Name x p) (e::es) [] pos) (tCB r t):=by
 intro pins s σ H Q I h
 refine wpAny_Call_Name_kw (ld_blt I hg hm hv ?_ hn hdb)
 exact PyProof.Rows.callWith_builtin1 (thn (ha pos pins s σ H _ I h) fun us s1 ⟨vs,H1,I1,r1,q1⟩=>hc pins s1 σ H1 vs us Q I1 r1 q1) he hpl
theorem pe_callTy (hc:CallR X (.type T) r)(hg:Gl X x)(hm:X.mg x=none)(hv:bootBuiltins x=some (.type T))(ha:PA X (e::es) t) (hn:x ≠ "__name__" := by decide) (hdb:(x==("__debug__" : Str))=false:=by decide)
  (he:starEach (e::es) X.env=(false,eval e X.env)::starEach es X.env:=by rfl) (hpl:(backTo pos (starEach es X.env)).any (·.1)=false:=by rfl):PE X (.Call (.Name x p) (e::es) [] pos) (tCB r t):=by
 intro pins s σ H Q I h
 refine wpAny_Call_Name_kw (ld_blt I hg hm hv ?_ hn hdb)
 exact PyProof.Rows.callWith_type1 (thn (ha pos pins s σ H _ I h) fun us s1 ⟨vs,H1,I1,r1,q1⟩=>hc pins s1 σ H1 vs us Q I1 r1 q1) he hpl
end
end L2
namespace HT
open PySem PyProof.Rows
section
open PySem.SeqAt
open PySem.AutoSeq1 (wpAny_loadPart')
open PySem.MeetsSeq PySem.MeetsSeq2 PySem.MeetsSeq3
end
section
variable {prog:Program} {w:World} {A:Around} {E:Value->Shared->Prop} {s:Shared}
theorem cat_tup {t b:Addr}{vs ws:List Value}{Q:Value->Shared->Prop}(ht:IsTup s.heap t vs.toArray)(hb:IsTup s.heap b ws.toArray)(hv:vs≠[])(h1:ws=[]->Q (.ref t) s) (h2:ws≠[]->Q (.ref s.heap.objs.size) { s with heap:=s.heap.push { cls:=.type "tuple", data:=.seq (vs++ws).toArray } })
  (hsz:vs.length+ws.length<=sizeLine):wpAny (model prog w) A (binaryOp .Add (.ref t) (.ref b)) Q E s:=by
 obtain⟨⟨cls,dd,data,sl⟩,ho,hc,n,hd⟩:=id ht
 obtain⟨⟨cls2,dd2,data2,sl2⟩,ho2,hc2,n2,hd2⟩:=id hb
 simp only at hc hd hc2 hd2
 subst hc hd hc2 hd2
 have e:vs.toArray++ws.toArray=(vs++ws).toArray:=by simp
 by_cases hw:ws=[]
 ·exact concat_meets ⟨_,ho,rfl⟩ ⟨_,ho2,rfl⟩ noFill_tuple_add seq_tuple_add PySem.F.slot_tuple_add PySem.F.entry_tuple_add (PySem.F.args_tuple_add_2 _ _)
   (tuple_addW1 t b vs.toArray ws.toArray n n2 dd dd2 sl sl2 (by simpa using hv) (by simp[hw])) ⟨ho,ho2,h1 hw⟩
 ·refine concat_meets ⟨_,ho,rfl⟩ ⟨_,ho2,rfl⟩ noFill_tuple_add seq_tuple_add PySem.F.slot_tuple_add PySem.F.entry_tuple_add (PySem.F.args_tuple_add_2 _ _)
   (tuple_addW2 t b vs.toArray ws.toArray n n2 dd dd2 sl sl2 (by simpa using hv) (by simpa using hw) (by rw[List.size_toArray,List.size_toArray];exact hsz)) ⟨ho,ho2,?_⟩
  rw[e]
  exact h2 hw
def sIx (n d:Nat):Option Int->Nat
 |none=>d
 |some v=>if v<0 then(v+(n:Int)).toNat else min v.toNat n
theorem sIx_nat (n d k:Nat):sIx n d (some (k:Int))=min k n:=by
 show(if(k:Int)<0 then((k:Int)+(n:Int)).toNat else min (k:Int).toNat n)=min k n
 rw[if_neg (by omega),Int.toNat_natCast]
theorem sIx_le (n d:Nat)(hd:d<=n)(o:Option Int):sIx n d o<=n:=by
 cases o with
 |none=>exact hd
 |some v =>
  show(if v<0 then(v+(n:Int)).toNat else min v.toNat n)<=n
  by_cases hv:v<0
  ·rw[if_pos hv];omega
  ·rw[if_neg hv];exact Nat.min_le_right _ _
theorem clip_eq (v:Int)(n d:Nat):(if v<0 then max (v+(n:Int)) 0 else min v (n:Int))=((sIx n d (some v):Nat):Int):=by
 show(if v<0 then max (v+(n:Int)) 0 else min v (n:Int))=(((if v<0 then(v+(n:Int)).toNat else min v.toNat n):Nat):Int)
 by_cases hv:v<0
 ·simp only[if_pos hv];omega
 ·simp only[if_neg hv];omega
theorem adjust_gen (lo hi:Option Int)(n:Nat):Builtin.Slice.sliceAdjust lo hi 1 (n:Int)=(((sIx n 0 lo:Nat):Int),((sIx n n hi:Nat):Int)):=by
 have h1:¬((1:Int)<0):=by omega
 unfold Builtin.Slice.sliceAdjust
 simp only[h1,if_false]
 refine Prod.ext ?_ ?_
 ·cases lo with
  |none=>rfl
  |some v=>exact clip_eq v n 0
 ·cases hi with
  |none=>rfl
  |some v=>exact clip_eq v n n
theorem places_gen (i j:Nat):Builtin.Slice.slicePlaces (i:Int) (j:Int) 1=j - i:=by
 unfold Builtin.Slice.slicePlaces
 have h1:(1:Int) > 0:=by omega
 simp only[h1,if_true,Int.ediv_one]
 split<;>omega
theorem slicePart_ {v:Value}{o:Option Int}{Q:Option Int->Shared->Prop}(p:IsPart v o)(h:Q o s):wpAny (model prog w) A (Builtin.Slice.slicePartIndex v) Q E s:=by
 cases p with
 |none=>exact slicePart_none h
 |int i t=>exact slicePart_int h
theorem sliceApplied_gen {sl:Addr}{vl vu:Value}{lo hi:Option Int}{n:Nat}{Q:Int×Int×Nat->Shared->Prop}(hs:s.heap.IsSliceOf sl vl vu .none)(pl:IsPart vl lo)(pu:IsPart vu hi)(h:Q (((sIx n 0 lo:Nat):Int),1,sIx n n hi - sIx n 0 lo) s):wpAny (model prog w) A (Builtin.Slice.sliceApplied (.ref sl) (pure (n:Int))) Q E s:=by
 obtain⟨os,hos,hcs,hds⟩:=id hs
 unfold Builtin.Slice.sliceApplied Builtin.Slice.sliceFields
 refine wpAny_bind (wpAny_bind (wpAny_field hos hds (x:=vl) rfl (wpAny_bind (wpAny_field hos hds (x:=vu) rfl (wpAny_bind (wpAny_field hos hds (x:=.none) rfl (wpAny_pure ?_)))))))
 refine wpAny_bind (slicePart_none ?_)
 show wpAny _ _ (if((1:Int)==0)=true then _ else _) _ _ s
 rw[if_neg (by decide)]
 refine wpAny_bind (slicePart_ pl (wpAny_bind (slicePart_ pu (wpAny_bind (wpAny_pure ?_)))))
 show wpAny _ _ (match Builtin.Slice.sliceAdjust lo hi 1 (n:Int) with|(lo,hi)=>pure (lo,(1:Int),Builtin.Slice.slicePlaces lo hi 1)) _ _ s
 rw[adjust_gen lo hi n]
 show wpAny _ _ (pure (((sIx n 0 lo:Nat):Int),(1:Int),Builtin.Slice.slicePlaces ((sIx n 0 lo:Nat):Int) ((sIx n n hi:Nat):Int) 1)) _ _ s
 rw[places_gen]
 exact wpAny_pure h
theorem pick_gen (xs:Array Value)(i k:Nat):((List.range k).filterMap fun(m:Nat)=>xs[((i:Int)+(m:Int)*1).toNat]?).toArray=((xs.toList.drop i).take k).toArray:=by
 have e:(fun(m:Nat)=>xs[((i:Int)+(m:Int)*1).toNat]?)=fun m=>xs[i+m]?:=by
  funext m
  have:((i:Int)+(m:Int)*1).toNat=i+m:=by omega
  rw[this]
 rw[e]
 have:=pick_run xs i k
 rw[List.filterMap_map] at this
 have e2:((fun x=>xs[x]?)∘fun x=>i+x)=fun m=>xs[i+m]?:=rfl
 rw[e2] at this
 rw[this]
theorem getItem_tuple_cut {t sl:Addr}{items:Array Value}{vl vu:Value}{lo hi:Option Int}{Q:Value->Shared->Prop}(ht:IsTup s.heap t items)(hs:s.heap.IsSliceOf sl vl vu .none)(pl:IsPart vl lo)(pu:IsPart vu hi)(hw:¬(sIx items.size 0 lo=0/\sIx items.size items.size hi=items.size))
  (h:Q (.ref s.heap.objs.size) { s with heap:=s.heap.push { cls:=.type "tuple", data:=.seq ((items.toList.drop (sIx items.size 0 lo)).take (sIx items.size items.size hi - sIx items.size 0 lo)).toArray } })
  (hsz:items.size<=sizeLine):wpAny (model prog w) A (getItem (.ref t) (.ref sl)) Q E s:=by
 have htake:sizeOk (.seq ((items.toList.drop (sIx items.size 0 lo)).take (sIx items.size items.size hi - sIx items.size 0 lo)).toArray):=by
  show((items.toList.drop (sIx items.size 0 lo)).take (sIx items.size items.size hi - sIx items.size 0 lo)).toArray.size<=sizeLine
  rw[List.size_toArray,List.length_take,List.length_drop,Array.length_toList]
  omega
 have hj:sIx items.size items.size hi<=items.size:=sIx_le _ _ (Nat.le_refl _) hi
 obtain⟨os,hos,hcs,hds⟩:=id hs
 have hTs:s.TypeIs (.ref sl) "slice" := ⟨os,hos,hcs⟩
 unfold getItem
 try with_reducible refine wpAny_holding ?_
 first|refine wpAny_bind (wpAny_pure ?_)|skip
 refine wpAny_bind (wpAny_sequenceKey ht.typeIs (by decide) ?_)
 refine wpAny_bind (wpAny_callSpecial?_slot (name:=Str.ofString "__getitem__") ht.typeIs PyProof.Rows.slot_tuple_getitem
  (wpAny_call_entry PyProof.Rows.slot_tuple_getitem ht.typeIs entry_tuple_getitem ?_ (args_tuple_getitem _ _)))
 show wpAny _ _ (Builtin.Tuple.tupleItemsOf (.ref t)>>=_) _ _ s
 refine wpAny_bind (tupleItemsOf_ ht ?_)
 refine wpAny_bind (wpAny_typeOf hTs ?_)
 rw[if_pos (by decide)]
 refine wpAny_bind (sliceApplied_gen hs pl pu ?_)
 have hno:¬((((sIx items.size 0 lo:Nat):Int)==0&&(1:Int)==1&&(sIx items.size items.size hi - sIx items.size 0 lo)==items.size)=true):=by
  intro q
  rw[Bool.and_eq_true,Bool.and_eq_true] at q
  have q1:((sIx items.size 0 lo:Nat):Int)=0:=eq_of_beq q.1.1
  have q2:sIx items.size items.size hi - sIx items.size 0 lo=items.size:=eq_of_beq q.2
  exact hw ⟨by omega,by omega⟩
 show wpAny _ _ (if(((sIx items.size 0 lo:Nat):Int)==0&&(1:Int)==1&&(sIx items.size items.size hi - sIx items.size 0 lo)==items.size)=true then _ else _) _ _ s
 rw[if_neg hno,pick_gen]
 first
  |exact wpAny_bind (m:=Builtin.Tuple.tupleExact _) (wpAny_newObj_type (wpAny_pure ⟨_,rfl,wpAny_pure h⟩) htake)
  |exact wpAny_bind (m:=Builtin.Tuple.tupleExact _) (wpAny_newObj_type (wpAny_bind (wpAny_pure (wpAny_pure ⟨_,rfl,wpAny_pure h⟩))) htake)
  |exact wpAny_bind (wpAny_bind (m:=Builtin.Tuple.tupleExact _) (wpAny_newObj_type (wpAny_pure (wpAny_pure ⟨_,rfl,wpAny_pure h⟩)) htake))
  |exact wpAny_bind (wpAny_bind (m:=Builtin.Tuple.tupleExact _) (wpAny_newObj_type (wpAny_pure ⟨_,rfl,wpAny_pure h⟩) htake))
end
end HT
namespace L2
open PySem PySem.Spec PyProof.Rows
abbrev TO:=St->Hp->(Option Int->Hp->Prop)->Prop
def PO (X:Cx)(e:Option Expr)(t:TO):Prop :=
 ∀(pins:List (Addr×Obj)) (s:Shared) (σ:St) (H:Hp) (Q:Option Int->Hp->Prop),Inv X pins σ H s->t σ H Q ->
  wpAny (model X.prog X.w) X.A (evalPart e X.env) (fun u s'=>∃o H',Inv X pins σ H' s'/\IsPart u o/\Q o H') X.xe s
def tNoPart:TO:=fun _ H Q=>Q none H
def tPart (t:TE):TO:=fun σ H Q=>t σ H fun x H1=>∃i,x=.int i/\Q (some i) H1
section
variable {X:Cx} {e:Expr} {te:TE} {lo hi:Option Expr} {tl th:TO} {pos p2:Pos}
theorem po_none:PO X none tNoPart:=by
 intro pins s σ H Q I h
 rw[evalPart_none]
 exact wpAny_pure ⟨none,H,I,.none,h⟩
theorem po_some (h:PE X e te):PO X (some e) (tPart te):=by
 intro pins s σ H Q I hw
 rw[evalPart_some]
 refine thn (h pins s σ H _ I hw) fun u s1 ⟨x,H1,I1,r1,q1⟩=>?_
 obtain⟨i,rfl,q⟩:=q1
 obtain⟨t,rfl⟩:=r1
 exact⟨some i,H1,I1,.int i t,q⟩
def SlR (X:Cx)(r:V->Option Int->Option Int->Hp->VK->Prop):Prop :=
 ∀(pins:List (Addr×Obj)) (s:Shared) (σ:St) (H:Hp) (x:V) (v vl vu:Value) (lo hi:Option Int) (sl:Addr) (Q:VK),Inv X pins σ H s->RelV x v->s.heap.IsSliceOf sl vl vu .none->IsPart vl lo->IsPart vu hi->r x lo hi H Q ->
  ∃T id,typeLookup (.type T) "__getitem__" = pure (some (.builtin id))/\s.TypeIs v T/\wpAny (model X.prog X.w) X.A (getItem v (.ref sl)) (EP X pins σ Q) X.xe s
theorem SlR.or {r r':V->Option Int->Option Int->Hp->VK->Prop}(h:SlR X r)(h':SlR X r'):SlR X (fun x lo hi H Q=>r x lo hi H Q\/r' x lo hi H Q):=by
 intro pins s σ H x v vl vu lo hi sl Q I rx hs pl pu q
 rcases q with q|q
 ·exact h pins s σ H x v vl vu lo hi sl Q I rx hs pl pu q
 ·exact h' pins s σ H x v vl vu lo hi sl Q I rx hs pl pu q
def tSl (r:V->Option Int->Option Int->Hp->VK->Prop)(te:TE)(tl th:TO):TE:=fun σ H Q=>te σ H fun x H1=>tl σ H1 fun l H2=>th σ H2 fun u H3=>r x l u H3 Q
theorem pe_slice {r:V->Option Int->Option Int->Hp->VK->Prop}(hr:SlR X r)(he:PE X e te)(hl:PO X lo tl)(hu:PO X hi th):PE X (.Subscript e (.Slice lo hi none p2) pos) (tSl r te tl th):=by
 intro pins s σ H Q I h
 refine Subscript_ (thn (he pins s σ H _ I h) fun v s1 ⟨x,H1,I1,r1,q1⟩=>?_)
 refine wpAny_Slice (thn (hl pins s1 σ H1 _ I1 q1) fun vl s2 ⟨l,H2,I2,pl,q2⟩=>thn (hu pins s2 σ H2 _ I2 q2) fun vu s3 ⟨u,H3,I3,pu,q3⟩=>?_)
 rw[evalPart_none]
 refine wpAny_pure ?_
 have I4:Inv X pins σ H3 { s3 with heap:=s3.heap.push { cls:=.type "slice", data:=.fields #[vl,vu,.none] } }:=I3.kept (t':=s3.toks) fun b ob q=>Heap.get?_push_of_some _ q
 obtain⟨T,id,hT,ht,hg⟩:=hr pins { s3 with heap:=s3.heap.push { cls:=.type "slice", data:=.fields #[vl,vu,.none] } } σ H3 x v vl vu l u s3.heap.objs.size Q I4 r1 (Heap.IsSliceOf.new ..) pl pu q3
 show wpAny (model X.prog X.w) X.A (subscriptTail e (.Slice lo hi none p2) v (.ref s3.heap.objs.size)) (EP X pins σ Q) X.xe { s3 with heap:=s3.heap.push { cls:=.type "slice", data:=.fields #[vl,vu,.none] } }
 exact tail_any (ops:=[.ref s3.heap.objs.size,v]) ht hT hg (by with_unfolding_all rfl)
def cutV (xs:List V)(lo hi:Option Int):List V:=(xs.drop (HT.sIx xs.length 0 lo)).take (HT.sIx xs.length xs.length hi - HT.sIx xs.length 0 lo)
theorem cutV_length (xs:List V)(lo hi:Option Int):(cutV xs lo hi).length<=xs.length:=by
 unfold cutV
 rw[List.length_take,List.length_drop]
 omega
def rSlT (K:PySem.W.Frag):V->Option Int->Option Int->Hp->VK->Prop:=fun x lo hi H Q=>∃a xs,x=.ref a/\SqT K H a xs /\
 ¬(HT.sIx xs.length 0 lo=0/\HT.sIx xs.length xs.length hi=xs.length)/\∀p,H p=none->Q (.ref p) (upd H p (.tup (cutV xs lo hi)))
theorem sl_tup:SlR X (rSlT X.K):=by
 intro pins s σ H x v vl vu lo hi sl Q I rx hs pl pu h
 obtain⟨a,xs,rfl,hx,hw,q⟩:=h
 cases rx
 obtain⟨its,r,ht,hz⟩:=I.tuple hx
 have hlen:its.toArray.size=xs.length:=by rw[List.size_toArray];exact r.length.symm
 refine⟨"tuple", _,PyProof.Rows.slot_tuple_getitem.lookup,ht.typeIs,?_⟩
 refine HT.getItem_tuple_cut ht hs pl pu (by rw[hlen];exact hw) ?_ (by rw[hlen];exact hz)
 rw[hlen]
 refine⟨.ref s.heap.objs.size,_,I.laid (t':=s.toks) (o:=.tup (cutV xs lo hi)) (fun b ob q=>Heap.get?_push_of_some _ q) (Nat.le_refl _) ?_,rfl,q _ (I.hok.fresh (Nat.le_refl _))⟩
 exact⟨Nat.le_trans (cutV_length xs lo hi) hz,_,(r.drop (HT.sIx xs.length 0 lo)).take (HT.sIx xs.length xs.length hi - HT.sIx xs.length 0 lo),IsTup.new _ _⟩
def rCatT (K:PySem.W.Frag):R2:=fun x y H Q=>∃a b xs ys,x=.ref a/\y=.ref b/\SqT K H a xs/\SqT K H b ys/\xs≠[]/\xs.length+ys.length<=sizeLine /\
 (ys=[]->Q (.ref a) H)/\(ys≠[]->∀p,H p=none->Q (.ref p) (upd H p (.tup (xs++ys))))
theorem Vals.nil_iff {xs:List V}{us:List Value}(r:Vals xs us):us=[]↔xs=[]:=by
 cases r with
 |nil=>simp
 |cons _ _=>simp
theorem op_catT:OpR X (binaryOp .Add) (rCatT X.K):=by
 intro pins s σ H x y v u Q I rx ry h
 obtain⟨a,b,xs,ys,rfl,rfl,ha,hb,hx,hz,q1,q2⟩:=h
 cases rx
 cases ry
 obtain⟨its,r1,p1,_⟩:=I.tuple ha
 obtain⟨its2,r2,p2,_⟩:=I.tuple hb
 refine HT.cat_tup p1 p2 (fun z=>hx (r1.nil_iff.mp z)) (fun z=>⟨.ref a,H,I,rfl,q1 (r2.nil_iff.mp z)⟩) (fun z=>?_) (by rw[<-r1.length,<-r2.length];exact hz)
 refine⟨.ref s.heap.objs.size,_,I.laid (t':=s.toks) (o:=.tup (xs++ys)) (fun b ob q=>Heap.get?_push_of_some _ q) (Nat.le_refl _) ?_,rfl,q2 (fun w=>z (r2.nil_iff.mpr w)) _ (I.hok.fresh (Nat.le_refl _))⟩
 exact⟨by rw[List.length_append];exact hz,_,r1.append r2,IsTup.new _ _⟩
end
end L2
namespace L2
open PySem PySem.Spec PyProof.Rows
def ixN (n:Nat)(i:Int):Option Nat:=if 0<=i then(if i<n then some i.toNat else none) else if -(n:Int)<=i then some (i+n).toNat else none
def atI {α:Type}(xs:List α)(i:Int):Option α:=(ixN xs.length i).bind fun j=>xs[j]?
theorem ixN_seq {n:Nat}{i:Int}{j:Nat}(h:ixN n i=some j):seqIndex? i n=some j/\j<n/\-(n:Int)<=i/\i<n:=by
 unfold ixN at h
 by_cases h0:0<=i
 ·rw[if_pos h0] at h
  by_cases h1:i<n
  ·rw[if_pos h1] at h
   have e:i.toNat=j:=Option.some.inj h
   exact⟨by rw[seqIndex_of h0 h1,e],by omega,by omega,h1⟩
  ·rw[if_neg h1] at h;cases h
 ·rw[if_neg h0] at h
  by_cases h1:-(n:Int)<=i
  ·rw[if_pos h1] at h
   have e:(i+n).toNat=j:=Option.some.inj h
   exact⟨by rw[seqIndex_neg (by omega) h1,e],by omega,h1,by omega⟩
  ·rw[if_neg h1] at h;cases h
theorem atI_get {α:Type}{xs:List α}{i:Int}{v:α}(h:atI xs i=some v):∃j,seqIndex? i xs.length=some j/\xs[j]?=some v/\j<xs.length/\-(xs.length:Int)<=i/\i<xs.length:=by
 unfold atI at h
 cases e:ixN xs.length i with
 |none=>rw[e] at h;cases h
 |some j =>
  rw[e] at h
  obtain⟨h1,h2,h3,h4⟩:=ixN_seq e
  exact⟨j,h1,h,h2,h3,h4⟩
theorem atI_nat {α:Type}{xs:List α}{j:Nat}{v:α}(h:xs[j]?=some v):atI xs (j:Int)=some v:=by
 have hj:j<xs.length:=(List.getElem?_eq_some_iff.mp h).1
 have e:ixN xs.length (j:Int)=some j:=by
  unfold ixN
  rw[if_pos (by omega),if_pos (by omega)];simp
 unfold atI;rw[e];exact h
def PlainIx (b:Expr):Prop:=∀o i,subscripted b false o i=operate [o,i] (getItem o i)
def IxR (X:Cx)(r:R2):Prop :=
 ∀(value slice:Expr) (pins:List (Addr×Obj)) (s:Shared) (σ:St) (H:Hp) (x y:V) (v u:Value) (Q:VK),Inv X pins σ H s->RelV x v->RelV y u->r x y H Q ->
  subscripted slice false v u=operate [v,u] (getItem v u)->wpAny (model X.prog X.w) X.A (subscriptTail value slice v u) (EP X pins σ Q) X.xe s
def MtR (X:Cx)(id:String)(r:V->List V->Hp->VK->Prop):Prop :=
 ∀(pins:List (Addr×Obj)) (s:Shared) (σ:St) (H:Hp) (x:V) (xs:List V) (v:Value) (us:List Value) (Q:VK),Inv X pins σ H s->RelV x v->Vals xs us->r x xs H Q ->
  wpAny (model X.prog X.w) X.A (call (.builtin id) (v::us)) (EP X pins σ Q) X.xe s
section
variable {X:Cx} {a b:Expr} {ta tb:TE} {pos:Pos}
theorem IxR.or {r r':R2}(h:IxR X r)(h':IxR X r'):IxR X (fun x y H Q=>r x y H Q\/r' x y H Q):=by
 intro value slice pins s σ H x y v u Q I rx ry q hs
 rcases q with q|q
 ·exact h value slice pins s σ H x y v u Q I rx ry q hs
 ·exact h' value slice pins s σ H x y v u Q I rx ry q hs
theorem MtR.or {id:String}{r r':V->List V->Hp->VK->Prop}(h:MtR X id r)(h':MtR X id r'):MtR X id (fun x xs H Q=>r x xs H Q\/r' x xs H Q):=by
 intro pins s σ H x xs v us Q I rx rs q
 rcases q with q|q
 ·exact h pins s σ H x xs v us Q I rx rs q
 ·exact h' pins s σ H x xs v us Q I rx rs q
theorem pe_ix {r:R2}(hr:IxR X r)(ha:PE X a ta)(hb:PE X b tb)(hs:PlainIx b):PE X (.Subscript a b pos) (tOp r ta tb):=by
 intro pins s σ H Q I h
 exact Subscript_ (binT ha hb I h fun v u s2 x y H2 I2 rx ry q=>hr a b pins s2 σ H2 x y v u Q I2 rx ry q (hs _ _))
def rIxL (K:PySem.W.Frag):R2:=fun x y H Q=>∃p xs i v,x=.ref p/\y=.int i/\SqL K H p xs/\atI xs i=some v/\Q v H
def rIxT (K:PySem.W.Frag):R2:=fun x y H Q=>∃p xs i v,x=.ref p/\y=.int i/\SqT K H p xs/\atI xs i=some v/\Q v H
def rIxS:R2:=fun x y H Q=>∃z i c,x=.str z/\y=.int i/\z.length<=sizeLine/\atI z.cps.toList i=some c/\Q (.str ⟨#[c]⟩) H
theorem ix_list:IxR X (rIxL X.K):=by
 intro value slice pins s σ H x y v u Q I rx ry h hs
 obtain⟨p,xs,i,z,rfl,rfl,hq,he,q⟩:=h
 cases rx
 obtain⟨t,rfl⟩:=ry
 obtain⟨its,r,pl,hz⟩:=I.list hq
 obtain⟨j,h1,h2,h3,h4,h5⟩:=atI_get he
 obtain⟨w,ew,rw'⟩:=r.get h2
 have hl:=r.length
 have hn:=line63
 have fin:EP X pins σ Q w s:=⟨z,H,I,rw',q⟩
 by_cases h0:0<=i
 ·have hj:i.toNat=j:=by
   rw[seqIndex_of h0 h5] at h1
   exact Option.some.inj h1
  exact item_listR pl.isList h0 (by omega) (by rw[hj];simpa using ew) fin hs
 ·have hj:(i+(its.toArray.size:Int)).toNat=j:=by
   rw[seqIndex_neg (by omega) h4] at h1
   rw[List.size_toArray,<-hl]
   exact Option.some.inj h1
  exact subscriptTail_builtinR (x:=w) pl.isList.typeIs slot_list_getitem.lookup
   (wpAny_getItem_list_neg (Q:=fun r s'=>r=w/\EP X pins σ Q r s') pl.isList (by omega) (by rw[List.size_toArray]<;>omega) (by omega) (by rw[hj];simpa using ew) ⟨rfl,fin⟩) hs
theorem ix_tup:IxR X (rIxT X.K):=by
 intro value slice pins s σ H x y v u Q I rx ry h hs
 obtain⟨p,xs,i,z,rfl,rfl,hq,he,q⟩:=h
 cases rx
 obtain⟨t,rfl⟩:=ry
 obtain⟨its,r,pl,hz⟩:=I.tuple hq
 obtain⟨j,h1,h2,h3,h4,h5⟩:=atI_get he
 obtain⟨w,ew,rw'⟩:=r.get h2
 have hl:=r.length
 have hn:=line63
 have fin:EP X pins σ Q w s:=⟨z,H,I,rw',q⟩
 exact subscriptTail_builtinR (x:=w) pl.typeIs slot_tuple_getitem.lookup
  (getItem_tuple (j:=j) (Q:=fun r s'=>r=w/\EP X pins σ Q r s') pl (by omega) (by omega) (by rw[List.size_toArray,<-hl];exact h1) (by simpa using ew) ⟨rfl,fin⟩) hs
theorem ix_str:IxR X rIxS:=by
 intro value slice pins s σ H x y v u Q I rx ry h hs
 obtain⟨z,i,c,rfl,rfl,hz,he,q⟩:=h
 obtain⟨t,rfl⟩:=rx
 obtain⟨t',rfl⟩:=ry
 obtain⟨j,h1,h2,h3,h4,h5⟩:=atI_get he
 have hl:z.cps.toList.length=z.length:=by simp[Str.length]
 rw[hl] at h1 h4 h5
 have hn:=line63
 exact tail_any (typeIs_str s z t) slot_str_getitem.lookup (getItem_str (c:=c) (by
  have e1:decide (i < -(2 ^ 63:Int))=false:=decide_eq_false (by omega)
  have e2:decide (i ≥ 2 ^ 63)=false:=decide_eq_false (by omega)
  rw[e1,e2,Bool.or_false]) (by rw[h1];simpa using h2) ⟨.str ⟨#[c]⟩,H,I.tok _,⟨_,rfl⟩,q⟩) hs
def rIx (K:PySem.W.Frag):R2:=fun x y H Q=>rIxL K x y H Q\/rIxT K x y H Q\/rIxS x y H Q
theorem ix_seq:IxR X (rIx X.K):=ix_list.or (ix_tup.or ix_str)
theorem Inv.lst {pins:List (Addr×Obj)}{σ:St}{H:Hp}{s:Shared}{p:Addr}{xs:List V}(I:Inv X pins σ H s)(h:H p=some (.lst xs)) :
  ∃(its:List Value) (n:Nat),Vals xs its/\s.heap.get? p=some { cls:=.type "list", data:=.seq its.toArray n }/\xs.length<=sizeLine:=by
 obtain⟨z,its,n,r,e⟩:=I.hok p _ h
 exact⟨its,n,r,e,z⟩
theorem slice_bounds (lo hi:Option Int)(n:Nat):(sliceBounds lo hi none n).1=((HT.sIx n 0 lo:Nat):Int)/\(sliceBounds lo hi none n).2.1=((HT.sIx n n hi:Nat):Int)/\(sliceBounds lo hi none n).2.2=1:=by
 refine⟨?_,?_,rfl⟩
 ·cases lo with
  |none=>simp[sliceBounds,HT.sIx]
  |some i =>
   simp only[sliceBounds,HT.sIx,Option.getD_none,show(1:Int) > 0 by decide,if_true]
   by_cases h:i<0
   ·simp only[h,if_true]<;>omega
   ·simp only[h,if_false]<;>omega
 ·cases hi with
  |none=>simp[sliceBounds,HT.sIx]
  |some i =>
   simp only[sliceBounds,HT.sIx,Option.getD_none,show(1:Int) > 0 by decide,if_true]
   by_cases h:i<0
   ·simp only[h,if_true]<;>omega
   ·simp only[h,if_false]<;>omega
theorem slicePick_cut (its:List Value)(lo hi:Option Int):slicePick its.toArray lo hi none=((its.drop (HT.sIx its.length 0 lo)).take (HT.sIx its.length its.length hi - HT.sIx its.length 0 lo)).toArray:=by
 obtain⟨h1,h2,h3⟩:=slice_bounds lo hi its.toArray.size
 unfold slicePick
 rw[h1,h2,h3]
 simp only[sliceRange_one,pick_run,List.size_toArray]<;>rfl
def rSlL (K:PySem.W.Frag):V->Option Int->Option Int->Hp->VK->Prop:=fun x lo hi H Q=>∃a xs,x=.ref a/\SqL K H a xs/\∀p,H p=none->Q (.ref p) (upd H p (.lst (cutV xs lo hi)))
theorem sl_list:SlR X (rSlL X.K):=by
 intro pins s σ H x v vl vu lo hi sl Q I rx hs pl pu h
 obtain⟨a,xs,rfl,hx,q⟩:=h
 cases rx
 obtain⟨its,r,ht,hz⟩:=I.list hx
 have hlen:=r.length
 refine⟨"list", _,slot_list_getitem.lookup,ht.isList.typeIs,?_⟩
 refine wpAny_getItem_list_slice ht.isList hs pl pu .none (by simp) ?_ (by rw[List.size_toArray]<;>omega)
 rw[slicePick_cut,<-hlen]
 refine⟨.ref s.heap.objs.size,_,I.laid (t':=s.toks) (o:=.lst (cutV xs lo hi)) (fun b ob q=>Heap.get?_push_of_some _ q) (Nat.le_refl _) ?_,rfl,q _ (I.hok.fresh (Nat.le_refl _))⟩
 exact⟨Nat.le_trans (cutV_length xs lo hi) hz,_,0,(r.drop (HT.sIx xs.length 0 lo)).take (HT.sIx xs.length xs.length hi - HT.sIx xs.length 0 lo),Heap.get?_push_size _ rfl⟩
def flatV:V->Bool
 |.non=>true
 |.bl _=>true
 |.int _=>true
 |.str _=>true
 |_=>false
def eqV:V->V->Bool
 |.non,.non=>true
 |.bl a,.bl b=>a==b
 |.bl a,.int b=>(if a then 1 else 0)==b
 |.int a,.bl b=>a==(if b then 1 else 0)
 |.int a,.int b=>a==b
 |.str a,.str b=>a==b
 |_,_=>false
theorem call_len_seq:CallR X (.builtin "len") (fun xs H Q=>∃p ys,xs=[.ref p]/\(SqL X.K H p ys\/SqT X.K H p ys)/\Q (.int ys.length) H):=by
 intro pins s σ H xs us Q I r h
 obtain⟨p,ys,rfl,hq,q⟩:=h
 obtain⟨u,rfl,rx⟩:=vals1 r
 cases rx
 have hn:=line63
 rcases hq with hq|hq
 ·obtain⟨its,r',pl,hz⟩:=I.list hq
  have hlen:=r'.length
  exact Calls.call_len_list pl.isList (by simp only[List.size_toArray]<;>omega) ⟨.int ys.length,H,I.tok _,⟨s.toks+1,by rw[List.size_toArray,hlen]⟩,q⟩
 ·obtain⟨its,r',pl,hz⟩:=I.tuple hq
  have hlen:=r'.length
  exact len_tuple pl (by simp only[List.size_toArray]<;>omega) ⟨.int ys.length,H,I.tok _,⟨s.toks+1,by rw[List.size_toArray,hlen]⟩,q⟩
theorem call_len_str:CallR X (.builtin "len") (fun xs H Q=>∃z,xs=[.str z]/\z.length<=sizeLine/\Q (.int z.length) H):=by
 intro pins s σ H xs us Q I r h
 obtain⟨z,rfl,hz,q⟩:=h
 obtain⟨u,rfl,t,rfl⟩:=vals1 r
 have hn:=line63
 exact len_str (by omega) ⟨.int z.length,H,I.tok _,⟨_,rfl⟩,q⟩
theorem CallR.or {f:Value}{r r':List V->Hp->VK->Prop}(h:CallR X f r)(h':CallR X f r'):CallR X f (fun xs H Q=>r xs H Q\/r' xs H Q):=by
 intro pins s σ H xs us Q I rs q
 rcases q with q|q
 ·exact h pins s σ H xs us Q I rs q
 ·exact h' pins s σ H xs us Q I rs q
theorem call_list_of:CallR X (.type "list") (fun xs H Q=>∃p ys,xs=[.ref p]/\(SqL X.K H p ys\/SqT X.K H p ys)/\∀l,H l=none->Q (.ref l) (upd H l (.lst ys))):=by
 intro pins s σ H xs us Q I r h
 obtain⟨p,ys,rfl,hq,q⟩:=h
 obtain⟨u,rfl,rx⟩:=vals1 r
 cases rx
 have fin:∀(its:List Value),Vals ys its->ys.length<=sizeLine->∀(h':Heap) (c':Nat),(∀b o',s.heap.get? b=some o'->h'.get? b=some o') ->
   h'.get? s.heap.objs.size=some { cls:=.type "list", dict:=none,data:=.seq its.toArray c',slots:=#[] }->EP X pins σ Q (.ref s.heap.objs.size) { s with heap:=h' }:=fun its r' hz h' c' kp e =>
  ⟨.ref s.heap.objs.size,_,I.laid (t':=s.toks) kp (Nat.le_refl _) (show ObjOk X.prog X.w _ h' _ (.lst ys) from⟨hz,its,c',r',e⟩),rfl,q _ (I.hok.fresh (Nat.le_refl _))⟩
 rcases hq with hq|hq
 ·obtain⟨its,r',pl,hz⟩:=I.list hq
  have hlen:=r'.length
  obtain⟨o,ho,hc,n,hd⟩:=pl.isList
  exact call_list_seq p (.inl rfl) ho hc hd (fun h' c' kp e=>fin its r' hz h' c' kp e) (by simp only[List.size_toArray]<;>omega)
 ·obtain⟨its,r',pl,hz⟩:=I.tuple hq
  have hlen:=r'.length
  obtain⟨o,ho,hc,n,hd⟩:=pl
  exact call_list_seq p (.inr rfl) ho hc hd (fun h' c' kp e=>fin its r' hz h' c' kp e) (by simp only[List.size_toArray]<;>omega)
def tyV (K:PySem.W.Frag)(T:String)(x:V)(H:Hp):Prop:=match x with
 |.str _=>T = "str"
 |.int _=>T = "int"
 |.ref p=>(T = "list"/\∃xs,SqL K H p xs)\/(T = "tuple"/\∃o,K.lookup p=some o/\o.cls=.type "tuple"/\o.dict=none) \/
   (T = "dict"/\((∃kvs,H p=some (.dK kvs))\/∃kvs,H p=some (.dT kvs)))\/(T = "set"/\∃S n,H p=some (.set S n))
 |_=>False
theorem tyV_is {pins:List (Addr×Obj)}{σ:St}{H:Hp}{s:Shared}{T:String}{x:V}{v:Value}(I:Inv X pins σ H s)(r:RelV x v)(ty:tyV X.K T x H) :
  s.TypeIs v T/\∀a,v=.ref a->∃ob,s.heap.get? a=some ob/\ob.dict=none:=by
 cases x with
 |str z =>
  obtain⟨t,rfl⟩:=r
  cases (show T = "str" from ty)
  exact⟨typeIs_str s z t,fun _ e=>nomatch e⟩
 |int i =>
  obtain⟨t,rfl⟩:=r
  cases (show T = "int" from ty)
  exact⟨typeIs_int s i t,fun _ e=>nomatch e⟩
 |ref p =>
  cases r
  rcases ty with⟨rfl,xs,hq⟩|⟨rfl,o,hk,hc,hd⟩|⟨rfl,hk⟩|⟨rfl,S,n,hk⟩
  ·obtain⟨its,_,pl,_⟩:=I.list hq
   refine⟨pl.isList.typeIs,fun a e=>?_⟩
   cases e
   obtain⟨o,n,e,c,hd,_⟩:=pl
   exact⟨o,e,hd⟩
  ·refine⟨⟨o,I.kIn p o hk,hc⟩,fun a e=>?_⟩
   cases e
   exact⟨o,I.kIn _ o hk,hd⟩
  ·have z:∃o,s.heap.get? p=some o/\o.ExactDict:=by
    rcases hk with⟨kvs,hk⟩|⟨kvs,hk⟩
    ·obtain⟨_,_,_,_,o,_,_,e,ex,_⟩:=I.hok p _ hk
     exact⟨o,e,ex⟩
    ·obtain⟨_,_,_,_,o,_,_,e,ex,_⟩:=I.hok p _ hk
     exact⟨o,e,ex⟩
   obtain⟨o,e,ex⟩:=z
   refine⟨⟨o,e,ex.1⟩,fun a e2=>?_⟩
   cases e2
   exact⟨o,e,ex.2.1⟩
  ·obtain⟨o,_,_,_,e,ex,_⟩:=I.hok p _ hk
   refine⟨⟨o,e,ex.1⟩,fun a e2=>?_⟩
   cases e2
   exact⟨o,e,ex.2.1⟩
 |_=>exact False.elim ty
def tBM (K:PySem.W.Frag)(T:String)(r:V->List V->Hp->VK->Prop)(to:TE)(t:TA):TE:=fun σ H Q=>to σ H fun x H1=>tyV K T x H1/\t σ H1 fun xs H2=>r x xs H2 Q
variable {o e:Expr} {es:List Expr} {to:TE} {t:TA} {name:Str} {apos cpos:Pos} {T id:String} {r:V->List V->Hp->VK->Prop}
theorem pe_bm (pa:PlainAttrs T)(slot:Slot T name id) (hty:typeOf (.builtin id)=pure (.type "method_descriptor")) (hm:MtR X id r) (ho:PE X o to) (ha:PA X (e::es) t)
  (hbase:attributeBase o name X.env (eval o X.env)=eval o X.env:=by rfl)
  (hfew:((backTo cpos (starEach (e::es) X.env)).all (fun x=>!x.1)&&(backToKw cpos (keywordEach [] X.env)).all (fun x=>x.1.isSome)
   && decide ((e::es).length+([]:List Keyword).length+(if([]:List Keyword).isEmpty then 0 else 1)<30))=true:=by rfl)
  (hline:(apos.endLine==cpos.line)=true:=by rfl) (hs:starEach (e::es) X.env=(false,eval e X.env)::starEach es X.env:=by rfl) (hplain:(backTo cpos (starEach es X.env)).any (·.1)=false:=by rfl) :
  PE X (.Call (.Attribute o name apos) (e::es) [] cpos) (tBM X.K T r to t):=by
 intro pins s σ H Q I h
 refine wpAny_Call_method_late hbase hfew hline rfl (thn (ho pins s σ H _ I h) fun v s1 ⟨x,H1,I1,r1,ty,q1⟩=>?_)
 obtain⟨h1,h2⟩:=tyV_is I1 r1 ty
 refine⟨T,id,pa,slot,hty,h1,h2,?_⟩
 have hA:=ha cpos pins s1 σ H1 _ I1 q1
 rw[hs] at hA ⊢
 refine Calls.callWith_builtin (by show(false||(backTo cpos (starEach es X.env)).any (·.1))=false;rw[hplain]<;>rfl) (Calls.evalArgs_plain ?_)
 exact thn hA fun us s2 ⟨vs,H2,I2,r2,q2⟩=>hm pins s2 σ H2 x vs v us Q I2 r1 r2 q2
end
end L2
namespace L2
open PySem PySem.Spec PyProof.Rows
def MtM (X:Cx)(id:String)(r:V->List V->Hp->VK->Prop):Prop :=
 ∀(pins:List (Addr×Obj)) (s:Shared) (σ:St) (H:Hp) (x:V) (xs:List V) (v:Value) (us:List Value) (Q:VK),Inv X pins σ H s->RelV x v->Vals xs us->r x xs H Q ->
  wpAny (model X.prog X.w) X.A (call (.builtin id) (v::us)) (EP X pins σ Q) X.xe s
theorem Vals.one:∀{x:V} {us:List Value},Vals [x] us->∃u,us=[u]/\RelV x u
 |_,_,.cons r .nil=>⟨_,rfl,r⟩
theorem Vals.two:∀{x y:V} {us:List Value},Vals [x,y] us->∃u v,us=[u,v]/\RelV x u/\RelV y v
 |_,_,_,.cons r (.cons q .nil)=>⟨_,_,rfl,r,q⟩
theorem Vals.zero:∀{us:List Value},Vals [] us->us=[]
 |_,.nil=>rfl
theorem Vals.reverse {xs:List V}{us:List Value}(h:Vals xs us):Vals xs.reverse us.reverse:=by
 induction h with
 |nil=>exact .nil
 |cons r t ih=>rw[List.reverse_cons,List.reverse_cons];exact Vals.append ih (.cons r .nil)
section
variable {X:Cx} {pins:List (Addr×Obj)} {σ:St} {H:Hp} {s:Shared} {l b:Addr} {xs ys zs:List V}
theorem Inv.lset {its its':List Value}{n:Nat}{f:Array Value->Array Value}{t':Nat}(I:Inv X pins σ H s)(hH:H l=some (.lst xs))
  (e:s.heap.get? l=some { cls:=.type "list", data:=.seq its.toArray n }) (hf:f its.toArray=its'.toArray) (hv:Vals ys its') (hz:ys.length<=sizeLine) :
  Inv X pins σ (upd H l (.lst ys)) { s with heap:=s.heap.update l (Obj.mapSeq f),toks:=t' }:=by
 have q:=PySem.IsL.update e f
 rw[hf] at q
 refine I.write (x:=l) (e:=l) (by rw[hH];exact trivial) (.inl rfl) (fun b' u hb hu=>(Heap.get?_update_other s.heap (Obj.mapSeq f) (Ne.symm hb)).trans hu) ⟨_,q⟩ ?_
 exact⟨hz,its',_,hv,q⟩
theorem Inv.lnew {its:List Value}{t':Nat}(I:Inv X pins σ H s)(hv:Vals ys its)(hz:ys.length<=sizeLine) :
  Inv X pins σ (upd H s.heap.objs.size (.lst ys)) { s with heap:=s.heap.push { cls:=.type "list", data:=.seq its.toArray },toks:=t' } :=
 I.laid (fun _ _ q=>Heap.get?_push_of_some _ q) (Nat.le_refl _) ⟨hz,its,0,hv,Heap.get?_push_size _ rfl⟩
theorem Inv.fresh (I:Inv X pins σ H s):H s.heap.objs.size=none:=I.hok.fresh (Nat.le_refl _)
theorem Inv.lstM (I:Inv X pins σ H s)(hH:H l=some (.lst xs)):xs.length<=sizeLine/\∃(its:List Value) (n:Nat),Vals xs its/\xs.length=its.length/\s.heap.get? l=some { cls:=.type "list", data:=.seq its.toArray n }:=by
 obtain⟨z,its,n,r,e⟩:=I.hok l _ hH
 exact⟨z,its,n,r,r.length,e⟩
end
section
variable {X:Cx}
def rAppend:V->List V->Hp->VK->Prop:=fun x vs H Q=>∃l xs y,x=.ref l/\vs=[y]/\H l=some (.lst xs)/\xs.length<sizeLine/\Q .non (upd H l (.lst (xs++[y])))
theorem mt_append:MtM X "list.append" rAppend:=by
 intro pins s σ H x vs v us Q I rx rv h
 obtain⟨l,xs,y,rfl,rfl,hH,hz,q⟩:=h
 cases rx
 obtain⟨u,rfl,ru⟩:=rv.one
 obtain⟨z,its,n,r,hl,e⟩:=I.lstM hH
 refine call_meets F.slot_list_append ⟨_,e,rfl⟩ F.entry_list_append (F.args_list_append_2 _ _) (PySem.list_append l its.toArray n u (by rw[List.size_toArray];omega)) ⟨e,?_⟩
 refine⟨.non,_,I.lset (its':=its++[u]) hH e (by simp) (r.append (.cons ru .nil)) ?_,rfl,q⟩
 rw[List.length_append,List.length_singleton]
 omega
end
section
variable {prog:Program} {w:World} {A:Around} {E:Value->Shared->Prop} {s:Shared}
set_option maxRecDepth 100000 in
end
section
variable {X:Cx}
end
end L2
namespace L2
open PySem PySem.Spec PyProof.Rows
section
variable {κ:Type} [DecidableEq κ]
def valV (kvs:List (κ×V))(k:κ):Option V:=(kvs.find? fun kv=>decide (kv.1=k)).map (·.2)
def putK (kvs:List (κ×V))(k:κ)(v:V):List (κ×V) :=
 if(kvs.any fun kv=>decide (kv.1=k))=true then kvs.map (fun kv=>if kv.1=k then(kv.1,v) else kv) else kvs++[(k,v)]
def dropK (kvs:List (κ×V))(k:κ):List (κ×V):=kvs.filter fun kv=>decide (kv.1≠k)
theorem valV_pos {p:κ×V}{r:List (κ×V)}{k:κ}(e:p.1=k):valV (p::r) k=some p.2:=by simp[valV,List.find?_cons,e]
theorem valV_neg {p:κ×V}{r:List (κ×V)}{k:κ}(e:¬p.1=k):valV (p::r) k=valV r k:=by simp[valV,List.find?_cons,e]
theorem valV_any (k:κ):∀kvs:List (κ×V),(kvs.any fun kv=>decide (kv.1=k))=(valV kvs k).isSome
 |[]=>rfl
 |p::r=>by
  rw[List.any_cons]
  by_cases e:p.1=k
  ·simp only[valV_pos e,decide_eq_true e,Bool.true_or,Option.isSome_some]
  ·rw[valV_neg e,decide_eq_false e,Bool.false_or];exact valV_any k r
theorem length_putK (kvs:List (κ×V))(k:κ)(v:V):(putK kvs k v).length<=kvs.length+1:=by
 unfold putK
 split
 ·rw[List.length_map];omega
 ·rw[List.length_append,List.length_cons,List.length_nil];omega
theorem RelO.isSome_eq {o:Option V}{u:Option Value}(r:RelO o u):o.isSome=u.isSome:=by
 cases o with
 |none=>cases u with
  |none=>rfl
  |some _=>exact(show False from r).elim
 |some _=>cases u with
  |none=>exact(show False from r).elim
  |some _=>rfl
theorem RelO.getD {o:Option V}{u:Option Value}{d:V}{d':Value}(r:RelO o u)(rd:RelV d d'):RelV (o.getD d) (u.getD d'):=by
 cases o with
 |none=>cases u with
  |none=>exact rd
  |some _=>exact(show False from r).elim
 |some _=>cases u with
  |none=>exact(show False from r).elim
  |some _=>exact r
theorem KV.val {kvs:List (κ×V)}{vs:List (κ×Value)}(r:KV kvs vs)(k:κ):RelO (valV kvs k) (valueAt vs k):=by
 unfold KV at r
 induction r with
 |nil=>exact True.intro
 | @cons p q ps qs h t ih =>
  obtain⟨h1,h2⟩:=h
  by_cases e:p.1=k
  ·have e':q.1=k:=h1.symm.trans e
   have b:valueAt (q::qs) k=some q.2:=by simp[valueAt,List.find?_cons,e']
   rw[valV_pos e,b];exact h2
  ·have e':¬q.1=k:=fun z=>e (h1.trans z)
   have b:valueAt (q::qs) k=valueAt qs k:=by simp[valueAt,List.find?_cons,e']
   rw[valV_neg e,b];exact ih
theorem KV.any {kvs:List (κ×V)}{vs:List (κ×Value)}(r:KV kvs vs)(k:κ):(kvs.any fun kv=>decide (kv.1=k))=vs.any fun kv=>decide (kv.1=k):=by
 unfold KV at r
 induction r with
 |nil=>rfl
 |cons h t ih=>rw[List.any_cons,List.any_cons,ih,h.1]
theorem KV.repl {kvs:List (κ×V)}{vs:List (κ×Value)}(r:KV kvs vs)(k:κ){y:V}{u:Value}(ry:RelV y u) :
  KV (kvs.map fun kv=>if kv.1=k then(kv.1,y) else kv) (vs.map fun kv=>if kv.1=k then(kv.1,u) else kv):=by
 unfold KV at r ⊢
 induction r with
 |nil=>exact .nil
 | @cons p q ps qs h t ih =>
  rw[List.map_cons,List.map_cons]
  refine .cons ?_ ih
  obtain⟨h1,h2⟩:=h
  by_cases e:p.1=k
  ·rw[if_pos e,if_pos (h1.symm.trans e)];exact⟨h1,ry⟩
  ·rw[if_neg e,if_neg (fun z=>e (h1.trans z))];exact⟨h1,h2⟩
theorem KV.put {kvs:List (κ×V)}{vs:List (κ×Value)}(r:KV kvs vs)(k:κ){y:V}{u:Value}(ry:RelV y u):KV (putK kvs k y) (stored vs k u):=by
 unfold putK stored
 rw[r.any k]
 by_cases e:(vs.any fun kv=>decide (kv.1=k))=true
 ·rw[if_pos e,if_pos e];exact r.repl k ry
 ·rw[if_neg e,if_neg e];exact Paired.snoc r ⟨rfl,ry⟩
theorem KV.drop {kvs:List (κ×V)}{vs:List (κ×Value)}(r:KV kvs vs)(k:κ):KV (dropK kvs k) (without vs k):=by
 unfold KV at r ⊢
 unfold dropK without
 induction r with
 |nil=>exact .nil
 | @cons p q ps qs h t ih =>
  obtain⟨h1,h2⟩:=h
  rw[List.filter_cons,List.filter_cons]
  by_cases e:p.1=k
  ·have a:¬decide (p.1≠k)=true:=by simp[e]
   have b:¬decide (q.1≠k)=true:=by simp[h1.symm.trans e]
   rw[if_neg a,if_neg b];exact ih
  ·have e':¬q.1=k:=fun z=>e (h1.trans z)
   have a:decide (p.1≠k)=true:=by simp[e]
   have b:decide (q.1≠k)=true:=by simp[e']
   rw[if_pos a,if_pos b];exact .cons ⟨h1,h2⟩ ih
theorem KV.keys {kvs:List (κ×V)}{vs:List (κ×Value)}(r:KV kvs vs):kvs.map (·.1)=vs.map (·.1):=by
 unfold KV at r
 induction r with
 |nil=>rfl
 |cons h t ih=>rw[List.map_cons,List.map_cons,ih,h.1]
theorem KV.length {kvs:List (κ×V)}{vs:List (κ×Value)}(r:KV kvs vs):kvs.length=vs.length:=Paired.length r
end
theorem kV_is {P:Program}{w:World}{k:Key}{u:Value}(r:RelV (kV k) u):(mixKind P w).is k u=true:=by
 cases k with
 |inl i=>obtain⟨t,e⟩:=(show ∃t,u=Value.int i t from r);subst e;exact mixKind_int P w i t
 |inr x=>obtain⟨t,e⟩:=(show ∃t,u=Value.str x t from r);subst e;exact mixKind_str P w x t
theorem items_are {P:Program}{w:World}:∀{ks:List Key} {us:List Value},Vals (ks.map kV) us->ItemsAre (mixKind P w) ks us
 |[],_,r=>by rw[List.map_nil] at r;cases r;exact .nil
 |k::ks,_,r=>by
  rw[List.map_cons] at r
  cases r with
  |cons h t=>exact .cons (kV_is h) (items_are t)
abbrev KT (H:Hp):List (List Key×V)->List (List Key×Addr×Value)->Prop:=Paired fun p q=>p.1=q.1/\H q.2.1=some (.tup (p.1.map kV))/\RelV p.2 q.2.2
theorem KT.val {H:Hp}{kvs:List (List Key×V)}{xs:List (List Key×Addr×Value)}(r:KT H kvs xs)(k:List Key):RelO (valV kvs k) ((atKey xs k).map (·.2)):=by
 induction r with
 |nil=>exact True.intro
 | @cons p q ps qs h t ih =>
  obtain⟨h1,_,h2⟩:=h
  by_cases e:p.1=k
  ·have e':q.1=k:=h1.symm.trans e
   have b:atKey (q::qs) k=some q.2:=by simp[atKey,List.find?_cons,e']
   rw[valV_pos e,b];exact h2
  ·have e':¬q.1=k:=fun z=>e (h1.trans z)
   have b:atKey (q::qs) k=atKey qs k:=by simp[atKey,List.find?_cons,e']
   rw[valV_neg e,b];exact ih
theorem KT.repl {H:Hp}{kvs:List (List Key×V)}{xs:List (List Key×Addr×Value)}(r:KT H kvs xs)(k:List Key){y:V}{u:Value}(ry:RelV y u) :
  KT H (kvs.map fun kv=>if kv.1=k then(kv.1,y) else kv) (xs.map (putAt k u)):=by
 induction r with
 |nil=>exact .nil
 | @cons p q ps qs h t ih =>
  rw[List.map_cons,List.map_cons]
  refine .cons ?_ ih
  obtain⟨h1,h2,h3⟩:=h
  unfold putAt
  by_cases e:p.1=k
  ·rw[if_pos e,if_pos (h1.symm.trans e)];exact⟨h1,h2,ry⟩
  ·rw[if_neg e,if_neg (fun z=>e (h1.trans z))];exact⟨h1,h2,h3⟩
theorem KT.put {H:Hp}{kvs:List (List Key×V)}{xs:List (List Key×Addr×Value)}(r:KT H kvs xs)(k:List Key){b:Addr}{y:V}{u:Value}(hb:H b=some (.tup (k.map kV)))(ry:RelV y u) :
  KT H (putK kvs k y) (storedH xs k b u):=by
 have e:(kvs.any fun kv=>decide (kv.1=k))=(atKey xs k).isSome:=by
  rw[valV_any,(r.val k).isSome_eq,Option.isSome_map]
 unfold putK storedH
 rw[e]
 by_cases q:(atKey xs k).isSome=true
 ·rw[if_pos q,if_pos q];exact r.repl k ry
 ·rw[if_neg q,if_neg q];exact Paired.snoc r ⟨rfl,hb,ry⟩
theorem KT.keeps {H H':Hp}{kvs:List (List Key×V)}{xs:List (List Key×Addr×Value)}(r:KT H kvs xs)(ht:∀b ys,H b=some (.tup ys)->H' b=some (.tup ys)):KT H' kvs xs :=
 Paired.mapP r fun _ _ z=>⟨z.1,ht _ _ z.2.1,z.2.2⟩
section
variable {P:Program} {w:World} {H:Hp} {h:Heap} {a:Addr}
theorem rd_of {u:HO}(ok:HOk P w H h)(e:Rd H a u):ObjOk P w H h a u:=e.ok ok
theorem dk_rd {kvs:List (Key×V)}(ok:HOk P w H h)(e:Rd H a (.dK kvs)):kvs.length<=sizeLine/\(a==sysModules)=false/\∃vs,KV kvs vs/\h.DictOf (mixKind P w) a vs :=
 show ObjOk P w H h a (.dK kvs) from rd_of ok e
theorem dk_of {kvs:List (Key×V)}(ok:HOk P w H h)(e:H a=some (.dK kvs)):kvs.length<=sizeLine/\(a==sysModules)=false/\∃vs,KV kvs vs/\h.DictOf (mixKind P w) a vs:=dk_rd ok (.inl e)
theorem key_of {ks:List Key}(ok:HOk P w H h)(e:H a=some (.tup (ks.map kV))):(tupleKind (mixKind P w)).is h ks a:=by
 obtain⟨_,its,r,o,h1,h2,n,h3⟩:=(show ObjOk P w H h a (.tup (ks.map kV)) from ok a _ e)
 exact⟨o,its.toArray,n,h1,h2,h3,by simpa using items_are r⟩
theorem dt_rd {kvs:List (List Key×V)}(ok:HOk P w H h)(e:Rd H a (.dT kvs)):kvs.length<=sizeLine/\(a==sysModules)=false /\
  ∃xs,KT H kvs xs/\h.DictOfH (tupleKind (mixKind P w)) a xs:=by
 obtain⟨z,y,xs,r,o,es,ep,h1,h2,h3,h4,h5⟩:=(show ObjOk P w H h a (.dT kvs) from rd_of ok e)
 refine⟨z,y,xs,r,o,es,ep,h1,h2,h3,h4,fun x hx=>?_,h5⟩
 have all:∀{l:List (List Key×V)} {m:List (List Key×Addr×Value)},KT H l m->∀x∈m,(tupleKind (mixKind P w)).is h x.1 x.2.1:=by
  intro l m q
  induction q with
  |nil=>intro x hx;exact nomatch hx
  | @cons p q ps qs hq t ih =>
   intro x hx
   rcases List.mem_cons.mp hx with e|hx
   ·subst e
    exact key_of ok (by rw[<-hq.1];exact hq.2.1)
   ·exact ih x hx
 exact all r x hx
theorem dt_of {kvs:List (List Key×V)}(ok:HOk P w H h)(e:H a=some (.dT kvs)):kvs.length<=sizeLine/\(a==sysModules)=false /\
  ∃xs,KT H kvs xs/\h.DictOfH (tupleKind (mixKind P w)) a xs:=dt_rd ok (.inl e)
end
def DGet (H:Hp)(a:Addr)(y:V)(r:Option V):Prop :=
 (∃kvs k,Rd H a (.dK kvs)/\y=kV k/\r=valV kvs k)\/∃kvs k b,Rd H a (.dT kvs)/\y=.ref b/\H b=some (.tup (k.map kV))/\r=valV kvs k
def DPut (H:Hp)(a:Addr)(y v:V)(H':Hp):Prop :=
 (∃kvs k,H a=some (.dK kvs)/\y=kV k/\kvs.length<sizeLine/\H'=upd H a (.dK (putK kvs k v))) \/
 ∃kvs k b,H a=some (.dT kvs)/\y=.ref b/\H b=some (.tup (k.map kV))/\kvs.length<sizeLine/\H'=upd H a (.dT (putK kvs k v))
theorem DGet.k {H:Hp}{a:Addr}{kvs:List (Key×V)}{k:Key}(e:H a=some (.dK kvs)):DGet H a (kV k) (valV kvs k):=.inl ⟨kvs,k,.inl e,rfl,rfl⟩
theorem DGet.t {H:Hp}{a b:Addr}{kvs:List (List Key×V)}{k:List Key}(e:H a=some (.dT kvs))(eb:H b=some (.tup (k.map kV))):DGet H a (.ref b) (valV kvs k):=.inr ⟨kvs,k,b,.inl e,rfl,eb,rfl⟩
theorem DPut.k {H:Hp}{a:Addr}{kvs:List (Key×V)}{k:Key}{v:V}(e:H a=some (.dK kvs))(hl:kvs.length<sizeLine):DPut H a (kV k) v (upd H a (.dK (putK kvs k v))):=.inl ⟨kvs,k,e,rfl,hl,rfl⟩
theorem DPut.t {H:Hp}{a b:Addr}{kvs:List (List Key×V)}{k:List Key}{v:V}(e:H a=some (.dT kvs))(eb:H b=some (.tup (k.map kV)))(hl:kvs.length<sizeLine) :
  DPut H a (.ref b) v (upd H a (.dT (putK kvs k v))):=.inr ⟨kvs,k,b,e,rfl,eb,hl,rfl⟩
section
variable {X:Cx} {pins:List (Addr×Obj)} {σ:St} {H:Hp} {s:Shared} {a:Addr} {y v:V} {u r:Value} {o:Option V} {A:Around} {E:Value->Shared->Prop}
theorem Inv.big (I:Inv X pins σ H s):sysModules<s.heap.objs.size:=by
 have h:mainGlobals<s.heap.objs.size:=(I.mod.glob.keeps I.bk).lt
 exact Nat.lt_trans (by decide) h
theorem d_getItem {Q:Value->Shared->Prop}(hu:A.units+1<cLine)(I:Inv X pins σ H s)(g:DGet H a y (some v))(ry:RelV y u)(h:∀w' s',Inv X pins σ H s'->RelV v w'->Q w' s') :
  wpAny (model X.prog X.w) A (getItem (.ref a) u) Q E s:=by
 rcases g with⟨kvs,k,e,ey,l⟩|⟨kvs,k,b,e,ey,eb,l⟩
 ·subst ey
  obtain⟨z,hd,vs,rel,dd⟩:=dk_rd I.hok e
  obtain⟨w',hw,rw'⟩:=RelO.some_of (v:=v) (o:=valueAt vs k) (by rw[l];exact rel.val k)
  exact wpAny_getItem_of (kV_is ry) dd.mapOf hw (h w' _ (I.tok _) rw')
 ·subst ey
  cases (show u=Value.ref b from ry)
  obtain⟨z,hd,xs,rel,dd⟩:=dt_rd I.hok e
  obtain⟨w',hw,rw'⟩:=RelO.some_of (v:=v) (o:=(atKey xs k).map (·.2)) (by rw[l];exact rel.val k)
  obtain⟨p,hp,hp2⟩:=Option.map_eq_some_iff.mp hw
  refine wpAny_getItem_heap (tupleKind_room_in1 hu) (key_of I.hok eb) dd hp ?_
  rw[hp2]
  exact h w' _ (I.tok _) rw'
theorem d_notIn {Q:Value->Shared->Prop}(hu:A.units+1<cLine)(I:Inv X pins σ H s)(g:DGet H a y o)(ry:RelV y u)(h:∀s',Inv X pins σ H s'->Q (.bool (!o.isSome)) s') :
  wpAny (model X.prog X.w) A (compareOp .NotIn u (.ref a)) Q E s:=by
 rcases g with⟨kvs,k,e,ey,l⟩|⟨kvs,k,b,e,ey,eb,l⟩
 ·subst ey
  obtain⟨z,hd,vs,rel,dd⟩:=dk_rd I.hok e
  refine wpAny_notIn_of (kV_is ry) hd dd.mapOf ?_
  rw[<-(rel.val k).isSome_eq,<-l]
  exact h _ (I.tok _)
 ·subst ey
  cases (show u=Value.ref b from ry)
  obtain⟨z,hd,xs,rel,dd⟩:=dt_rd I.hok e
  refine wpAny_notIn_heap (tupleKind_room_in1 hu) (key_of I.hok eb) hd dd ?_
  have q:=(rel.val k).isSome_eq
  rw[Option.isSome_map] at q
  rw[<-q,<-l]
  exact h _ (I.tok _)
theorem d_write {h':Heap}{t':Nat}{ob:HO}(I:Inv X pins σ H s)(mu:Mut (H a))(hs:Heap.SameBut a s.heap h')(he:∃q,h'.get? a=some q)(new:ObjOk X.prog X.w (upd H a ob) h' a ob) :
  Inv X pins σ (upd H a ob) { s with heap:=h',toks:=t' } :=
 I.write (x:=a) (e:=a) mu (.inl rfl) (fun b q hb z=>(hs.2 b hb).trans z) he new
theorem dk_new {P:Program}{w:World}{H':Hp}{h':Heap}{kvs:List (Key×V)}{vs:List (Key×Value)}(z:kvs.length<=sizeLine)(hd:(a==sysModules)=false)(rel:KV kvs vs)(dd:h'.DictOf (mixKind P w) a vs) :
  ObjOk P w H' h' a (.dK kvs):=⟨z,hd,vs,rel,dd⟩
theorem d_setItem {H':Hp}{Q:Unit->Shared->Prop}(hu:A.units+1<cLine)(I:Inv X pins σ H s)(g:DPut H a y v H')(ry:RelV y u)(rv:RelV v r)(h:∀s',Inv X pins σ H' s'->Q () s') :
  wpAny (model X.prog X.w) A (setItem (.ref a) u r) Q E s:=by
 rcases g with⟨kvs,k,e,ey,l,eH⟩|⟨kvs,k,b,e,ey,eb,l,eH⟩
 ·subst ey eH
  obtain⟨z,hd,vs,rel,dd⟩:=dk_of I.hok e
  have hz:vs.length<=sizeLine:=by rw[<-rel.length];exact z
  have hl:(putK kvs k v).length<=sizeLine:=by have:=length_putK kvs k v;omega
  refine wpAny_setItem_pairs (hsz:=hz) (kV_is ry) dd fun h' dd' hs=>h _ ?_
  have he:∃q,h'.get? a=some q:=let ⟨q,_,_,hq,_⟩:=dd';⟨q,hq⟩
  exact d_write I (by rw[e];exact True.intro) hs he (dk_new hl hd (rel.put k rv) dd')
 ·subst ey eH
  cases (show u=Value.ref b from ry)
  obtain⟨z,hd,xs,rel,dd⟩:=dt_of I.hok e
  have hz:xs.length<=sizeLine:=by rw[<-Paired.length rel];exact z
  have hl:(putK kvs k v).length<=sizeLine:=by have:=length_putK kvs k v;omega
  refine wpAny_setItem_heap (hsz:=hz) (tupleKind_room_in1 hu) (key_of I.hok eb) dd fun h' dd' hs=>h _ ?_
  obtain⟨q,es,ep,hq,h2,h3,h4,_,h5⟩:=dd'
  refine d_write I (by rw[e];exact True.intro) hs ⟨q,hq⟩ ⟨hl,hd,_,(rel.put k eb rv).keeps fun c ys ec=>?_,q,es,ep,hq,h2,h3,h4,h5⟩
  rw[upd_ne (ne_of ec e (fun z=>nomatch z))]
  exact ec
end
section
variable {X:Cx} {pins:List (Addr×Obj)} {σ:St} {H:Hp} {s:Shared} {a:Addr} {kvs:List (Key×V)} {k:Key} {u:Value} {A:Around} {E:Value->Shared->Prop}
end
def NoSl (i:Expr):Prop:=∀ov iv,subscripted i false ov iv=operate [ov,iv] (getItem ov iv)
theorem subD_of {prog:Program}{w:World}{A:Around}{E:Value->Shared->Prop}{s:Shared}{env:Env}{value slice:Expr}{pos:Pos}{T id:String}{Q:Value->Shared->Prop}
  (hl:typeLookup (.type T) "__getitem__" = pure (some (.builtin id))) (hs:NoSl slice)
  (h:wpAny (model prog w) A (eval value env) (fun o s₁=>wpAny (model prog w) A (eval slice env) (fun i s₂=>s₂.TypeIs o T/\wpAny (model prog w) A (getItem o i) Q E s₂) E s₁) E s) :
  wpAny (model prog w) A (eval (.Subscript value slice pos) env) Q E s:=by
 refine Subscript_ (wpAny_mono h (fun o s₁ h₁=>wpAny_mono h₁ (fun i s₂ h₂=>?_) fun _ _ x=>x) fun _ _ x=>x)
 obtain⟨hT,h₂⟩:=h₂
 unfold subscriptTail
 refine wpAny_bind ?_
 rw[getitemInPython_of_ne hT.not_modules]
 refine wpAny_bind (wpAny_specialOf hT hl ?_)
 have fin:wpAny (model prog w) A (subscripted slice false o i) (fun r s₃=>wpAny (model prog w) A (letTemporaryGo value o r>>=fun _=>pure r) Q E s₃) E s₂:=by
  rw[hs o i]
  exact wpAny_operating (wpAny_mono h₂ (fun r s₃ h₃=>wpAny_bind (wpAny_letTemporaryGo (wpAny_pure h₃))) fun _ _ x=>x)
 first
  |exact wpAny_pure (wpAny_bind fin)
  |exact wpAny_bind (wpAny_pure (wpAny_bind fin))
  |exact wpAny_bind fin
theorem dict_typeIs {X:Cx}{pins:List (Addr×Obj)}{σ:St}{H:Hp}{s:Shared}{a:Addr}{y:V}{o:Option V}(I:Inv X pins σ H s)(g:DGet H a y o):s.TypeIs (.ref a) "dict" := by
 rcases g with⟨kvs,k,e,_,_⟩|⟨kvs,k,b,e,_,_,_⟩
 ·obtain⟨_,_,vs,_,dd⟩:=dk_rd I.hok e
  exact dd.typeIs
 ·obtain⟨_,_,xs,_,dd⟩:=dt_rd I.hok e
  exact dd.typeIs
def tDGet (td ty:TE):TE:=fun σ H Q=>td σ H fun x H1=>ty σ H1 fun y H2=>∃a v,x=.ref a/\DGet H2 a y (some v)/\Q v H2
def tDNotIn (ty td:TE):TE:=fun σ H Q=>ty σ H fun y H1=>td σ H1 fun x H2=>∃a o,x=.ref a/\DGet H2 a y o/\Q (.bl (!o.isSome)) H2
def sDPut (td ty tv:TE):TS:=fun D σ H=>tv σ H fun v H1=>td σ H1 fun x H2=>ty σ H2 fun y H3=>∃a H4,x=.ref a/\DPut H3 a y v H4/\D.nx σ H4
section
variable {X:Cx} {o i e value:Expr} {pos pos' tpos:Pos} {td ty tv:TE}
theorem pe_dget (hu:X.A.units+1<cLine)(ho:PE X o td)(hi:PE X i ty)(hs:NoSl i):PE X (.Subscript o i pos) (tDGet td ty):=by
 intro pins s σ H Q I h
 refine subD_of PySem.F.slot_dict_getitem.lookup hs (thn (ho pins s σ H _ I h) fun u s1 ⟨x,H1,I1,rx,q1⟩=>thn (hi pins s1 σ H1 _ I1 q1) fun iv s2 ⟨y,H2,I2,ry,a,v,ex,g,q2⟩=>?_)
 subst ex
 obtain rfl:u=Value.ref a:=rx
 exact⟨dict_typeIs I2 g,d_getItem hu I2 g ry fun w' s3 I3 rw'=>⟨v,H2,I3,rw',q2⟩⟩
theorem pc_dnotin (hu:X.A.units+1<cLine)(hi:PE X i ty)(ho:PE X o td):PC X .NotIn i o (tDNotIn ty td):=by
 intro pins s σ H Q I h
 refine thn (hi pins s σ H _ I h) fun iv s1 ⟨y,H1,I1,ry,q1⟩=>thn (ho pins s1 σ H1 _ I1 q1) fun u s2 ⟨x,H2,I2,rx,a,ov,ex,g,q2⟩=>?_
 subst ex
 obtain rfl:u=Value.ref a:=rx
 exact d_notIn hu I2 g ry fun s3 I3=>⟨.bl (!ov.isSome),H2,I3,rfl,q2⟩
theorem ps_dput (hu:X.A.units+1<cLine)(ho:PE X o td)(hi:PE X i ty)(hv:PE X value tv)(hs:swapsWith value (some (.Subscript o i pos')) pos.line X.env=pure false) :
  PS X (.Assign [.Subscript o i pos'] value pos) (sDPut td ty tv):=by
 intro pins s σ H D I h
 refine wpAny_Assign_Subscript (thn (hv pins s σ H _ I h) fun r s1 ⟨v,H1,I1,rv,q1⟩=>thn (ho pins s1 σ H1 _ I1 q1) fun u s2 ⟨x,H2,I2,rx,q2⟩=>thn (hi pins s2 σ H2 _ I2 q2) fun iv s3 ⟨y,H3,I3,ry,a,H4,ex,g,q3⟩=>?_) hs
 subst ex
 obtain rfl:u=Value.ref a:=rx
 exact d_setItem hu I3 g ry rv fun s4 I4=>⟨σ,H4,I4,q3⟩
end
theorem dt_empty {P:Program}{w:World}{H:Hp}(h:Heap)(hb:sysModules<h.objs.size):ObjOk P w H (h.push { cls:=.type "dict", data:=.dict #[] }) h.objs.size (.dT []) :=
 ⟨Nat.zero_le _,beq_eq_false_iff_ne.mpr (Ne.symm (Nat.ne_of_lt hb)),[],.nil,_,#[],0,Heap.get?_push_size _ rfl,⟨rfl,rfl,rfl⟩,rfl,rfl,List.nodup_nil⟩
def tDNewT:TE:=fun _ H Q=>∀p,H p=none->Q (.ref p) (upd H p (.dT []))
section
variable {X:Cx} {pos:Pos}
theorem pe_dnewT:PE X (.Dict [] [] pos) tDNewT:=fun pins s σ H Q I h =>
 wpAny_Dict_empty ⟨.ref s.heap.objs.size,_,I.laid (a:=s.heap.objs.size) (o:=.dT []) (t':=s.toks) (fun _ _ q=>Heap.get?_push_of_some _ q) (Nat.le_refl _) (dt_empty s.heap I.big),rfl,h _ (I.hok.fresh (Nat.le_refl _))⟩
end
abbrev VV:List (V×V)->List (Value×Value)->Prop:=Paired fun p q=>RelV p.1 q.1/\RelV p.2 q.2
structure M1 (X:Cx) (o:Expr) (m:Str) (apos:Pos) (e:Expr) (cpos:Pos):Prop where
 base:attributeBase o m X.env (eval o X.env)=eval o X.env
 few:((backTo cpos (starEach [e] X.env)).all (fun x=>!x.1)&&(backToKw cpos (keywordEach [] X.env)).all (fun x=>x.1.isSome)
  && decide (([e]:List Expr).length+([]:List Keyword).length+(if([]:List Keyword).isEmpty then 0 else 1)<30))=true
 line:(apos.endLine==cpos.line)=true
 trees:backTo cpos (starEach [e] X.env)=[(false,eval e X.env)]
structure M2 (X:Cx) (o:Expr) (m:Str) (apos:Pos) (e f:Expr) (cpos:Pos):Prop where
 base:attributeBase o m X.env (eval o X.env)=eval o X.env
 few:((backTo cpos (starEach [e,f] X.env)).all (fun x=>!x.1)&&(backToKw cpos (keywordEach [] X.env)).all (fun x=>x.1.isSome)
  && decide (([e,f]:List Expr).length+([]:List Keyword).length+(if([]:List Keyword).isEmpty then 0 else 1)<30))=true
 line:(apos.endLine==cpos.line)=true
 trees:backTo cpos (starEach [e,f] X.env)=[(false,eval e X.env),(false,eval f X.env)]
section
variable {X:Cx} {pins:List (Addr×Obj)} {σ:St} {H:Hp} {s:Shared} {a:Addr} {y d:V} {u r:Value} {o:Option V} {A:Around} {E:Value->Shared->Prop}
end
section
variable {X:Cx} {o e f:Expr} {apos cpos:Pos} {td ty tx:TE}
end
section
variable {X:Cx} {pins:List (Addr×Obj)} {σ:St} {H:Hp} {s:Shared} {a:Addr} {kvs:List (Key×V)} {A:Around} {E:Value->Shared->Prop}
end
section
variable {X:Cx} {pins:List (Addr×Obj)} {σ:St} {H:Hp} {s:Shared} {a:Addr} {y:V} {u:Value} {A:Around} {E:Value->Shared->Prop}
end
end L2
namespace Att
open PySem PySem.W PySem.Calls PyProof.Rows
theorem ints_of_wellAll {P:Params}{h:Heap}:∀(ns:List Int) (vs:List Value),WellAll P h vs (ns.map WData.int)->IntsAre vs ns:=by
 intro ns
 induction ns with
 |nil =>
  intro vs w
  rw[List.map_nil] at w
  cases w
  exact .nil
 |cons n ns ih =>
  intro vs w
  rw[List.map_cons] at w
  cases w with
  |cons a b =>
   cases a
   exact .cons _ _ (ih _ b)
theorem script_of {l:OpenLaw}{n:Nat}(hn:l.most=some n){P:Params}{h:Heap}{args:List WData}{vals:List Value}(hpre:l.row.toRowW.claim.pre args=true)(hwl:WellAll P h vals args) :
  ∃a vs ns,vals=[Value.ref a]/\args=[WData.list (ns.map WData.int)]/\h.get? a=some { cls:=.type "list", data:=.seq vs.toArray }/\IntsAre vs ns/\ns.length<=n:=by
 have hsh:WShape.hasAll [] args [.list .int]=true:=(pre_splitW hpre).1
 have hc:l.pre.holds [] { args:=args }=true:=(pre_splitW hpre).2
 obtain⟨d,r,rfl,h1,h2⟩:=hasAllW_cons hsh
 obtain rfl:=hasAllW_nil h2
 obtain⟨xs,rfl,h3⟩:=hasW_list h1
 obtain⟨ns,rfl⟩:=items_int h3
 have hlen:ns.length<=n:=by
  unfold OpenLaw.pre at hc
  have h4:(WTm.not (.lt (.lit (.int (n:Int))) (.len (.arg 0)))).holds [] { args:=[.list (ns.map .int)] }=true:=by
   have h4:=(holds_andW hc).1
   rw[hn] at h4
   exact h4
  have h5:=condW_of h4 (w_not (w_lt w_lit (w_len_list (w_arg rfl))))
  rw[List.length_map] at h5
  refine Nat.le_of_not_lt fun q=>?_
  have q':(n:Int)<((ns.length:Nat):Int):=by omega
  first
   |(rw[decide_eq_true q'] at h5;exact absurd h5 (by decide))
   |(simp at h5;omega)
 cases hwl with
 |cons w1 w2 =>
  cases w2
  cases w1 with
  |list ho hall=>exact⟨_,_,ns,rfl,rfl,ho,ints_of_wellAll ns _ hall,hlen⟩
theorem post_true (l:OpenLaw)(args:List WData):l.row.toRowW.claim.post args (.bool true) args=true :=
 postW_of (r:=l.row.toRowW) (X:=(true==true))
  (show WShape.has [] (.bool true) .bool=true by first|rfl|decide|simp[WShape.has,WShape.arms,WShape.armsAll])
  (show(WTm.eq .res (.lit (.bool true))).value [] { args:=args,res:=some (.bool true),after:=args }=some (.bool (true==true)) from w_eq_bool (w_res rfl) w_lit) rfl
theorem attach_call {l:OpenLaw}{n:Nat}{q:Program}{loose:List Str}{XP:(Str->Option Value)->Heap->Prop}{YP:World->Heap->Prop}{d:DefRec}(hn:l.most=some n)(hdf:d.params.defaults=[])
  (call:∀(w:World) (s₀ s₁:Shared) (mg mb:Str->Option Value) (fa:Addr) (o:Obj) (pm cd doc:Value) (a:Addr) (vs:List Value) (ns:List Int),
   Ground q loose [] XP w s₀ mg mb s₁.heap->YP w s₁.heap ->
   s₁.heap.get? fa=some o->o.data=.func (docDef d.name d.params d.body d.scope pm cd doc)->s₁.heap.CodeRec cd d.name->mg d.name=some (.ref fa) ->
   s₁.heap.get? a=some { cls:=.type "list", data:=.seq vs.toArray }->IntsAre vs ns->ns.length<=n->s₁.gens=#[] ->
   codeAny (model l.prog w) callerA (.call (.ref fa) ⟨[.ref a],[]⟩) (fun r s'=>r=.ok (.ret (.bool true))/\OldK s₁.heap s'.heap/\s'.os=s₁.os/\AllBare s'.gens) s₁) :
  WalkO q loose XP YP l.row.toRowW d [] (fun f vs=>PySem.call f vs):=by
 intro w s₀ s₁ mg mb G Y fa o pm cd doc dV kV ho hd hcd hD hmg hg args vals as hpre hlay hrd hwl hlo
 obtain rfl:dV=.none:=Dflts.none hD hdf
 obtain rfl:kV=.none:=Dflts.noKw hD
 obtain⟨a,vs,ns,rfl,rfl,hobj,hints,hlen⟩:=script_of hn hpre hwl
 refine enter_call (codeAny_mono (call w s₀ s₁ mg mb fa o pm cd doc a vs ns G Y ho (fd_plain hd) hcd hmg hobj hints hlen hg) fun r s' hq=>?_)
 obtain⟨rfl,h2,h3,h4⟩:=hq
 exact⟨.inl ⟨.bool true,.bool true,[],rfl,fun _=>rfl,.bool true,post_true l _,fun _=>⟨List.Pairwise.nil,fun _ hm=>(nomatch hm)⟩⟩,h2,h3,h4⟩
section
variable {prog:Program} {w:World} {A:Around} {E:Value->Shared->Prop} {s:Shared} {K:Frag}
def ledger (h:Heap)(L d:Addr):List (Addr×Obj):=(List.range h.objs.size).filterMap fun a=>if a=L\/a=d then none else(h.get? a).map fun o=>(a,o)
end
end Att
namespace L2
open PySem PySem.Spec PyProof.Rows
theorem vals_ints:∀{vs:List Value} {ns:List Int},IntsAre vs ns->Vals (ns.map V.int) vs
 |_,_,.nil=>.nil
 |_,_,.cons n t h=>.cons ⟨t,rfl⟩ (vals_ints h)
def Only (H:Hp):Prop:=∀b,H b=none\/∃o xs,H b=some (.frz o (.lst xs))
theorem law_call {P:Program}{w:World}{K:PySem.W.Frag}{mg mb:Str->Option Value}{CX:CXT}{k:Nat}{fa a:Addr}{fd:FuncData}{x:Str}{sp:Sp}{s₁:Shared}{vs:List Value}{ns:List Int}(KX:K.In s₁.heap)(hns:s₁.heap.Ns mainGlobals mg)(hb:s₁.heap.Ns builtinsNs mb) (hbb:∀x:Str,x ≠ "__name__"->mb x=bootBuiltins x) (hlim:s₁.heap.NoLimit) (hg:s₁.gens=#[])
  (ha:s₁.heap.get? a=some { cls:=.type "list", data:=.seq vs.toArray }) (hi:IntsAre vs ns) (hl:ns.length<=sizeLine) (hr:Room k callerA)
  (F:∀base:Heap,K.In base->base.Ns mainGlobals mg->FnOk P w K mg base CX k fa fd [x] sp) (hbind:∀(s:Shared) (u:Value),BindsTo s fd ⟨[u],[]⟩ [(x,u)])
  (hsp:∀H:Hp,Only H->SqL K H a (ns.map V.int)->sp [.ref a] H (fun v _=>v=.bl true) fun _ _ _=>False)
  (hCX:∀H e s',CX [] H s₁ (fun _ _ _=>False) e s'->False) :
  codeAny (model P w) callerA (.call (.ref fa) ⟨[.ref a],[]⟩) (fun r s'=>r=.ok (.ret (.bool true))/\OldK s₁.heap s'.heap/\s'.os=s₁.os/\AllBare s'.gens) s₁:=by
 have rv:=vals_ints hi
 have lenV:=hi.length
 have core:∀H:Hp,Only H->SqL K H a (ns.map V.int)->HOk P w H s₁.heap->(∀b,H b≠none->b=a)->(H a≠none->K.lookup a=none) ->
   codeAny (model P w) callerA (.call (.ref fa) ⟨[.ref a],[]⟩) (fun r s'=>r=.ok (.ret (.bool true))/\OldK s₁.heap s'.heap/\s'.os=s₁.os/\AllBare s'.gens) s₁:=by
  intro H hO hS hok hA hK
  have base_of:∀{b:Addr} {o:Obj},s₁.heap.get? b=some o->H b=none->(hidT s₁.heap H).get? b=some o:=fun e n=>hidT_get e n
  have noA:∀{b:Addr} {o:Obj} {es:Array DictEntry} {ep:Nat},s₁.heap.get? b=some o->o.data=.dict es ep->H b=none:=fun {b o es ep} e d=>by
   cases q:H b with
   |none=>rfl
   |some u =>
    have e':b=a:=hA b (by rw[q];simp)
    subst e'
    rw[ha] at e;cases e
    have d':Data.seq vs.toArray _=Data.dict es ep:=d
    cases d'
  have nsK:∀{b:Addr} {m:Str->Option Value},s₁.heap.Ns b m->(hidT s₁.heap H).Ns b m:=fun {b m} ⟨o,es,ep,e,d,r⟩=>⟨o,es,ep,base_of e (noA e d),d,r⟩
  have hKb:K.In (hidT s₁.heap H):=fun b o e=>base_of (KX b o e) (by
   cases q:H b with
   |none=>rfl
   |some u =>
    have e':b=a:=hA b (by rw[q];simp)
    subst e'
    rw[hK (by rw[q];simp)] at e;cases e)
  have hM:Mod K mg (hidT s₁.heap H):=⟨hKb,nsK hns,⟨mb,nsK hb,hbb⟩,let ⟨mc,h1,h2⟩:=hlim;⟨mc,nsK h1,h2⟩⟩
  have e0:Env0 P w K mg (hidT s₁.heap H) callerA [] s₁ H:=⟨rfl,hM,fun b o e=>of_hidT e,Nat.le_of_eq (hidT_size _ _),trivial,fun b hb=>absurd (show b∈([]:List Addr) from hb) (by simp),hok,.of_eq hg⟩
  refine codeAny_mono ((F _ hKb (nsK hns)).run callerA [] s₁ H ⟨[.ref a],[]⟩ [.ref a] [.ref a] _ _ hr e0 (hbind s₁ (.ref a)) (.cons rfl .nil) (hsp H hO hS)) fun r s' h=>?_
  cases r with
  |error e=>exact(hCX H e s' h).elim
  |ok fl =>
   cases fl with
   |next=>exact False.elim h
   |brk=>exact False.elim h
   |cont=>exact False.elim h
   |ret u =>
    obtain⟨v,H',os,bare,un,hok',r',q⟩:=h
    have q':v=.bl true:=q
    subst q'
    obtain rfl:u=Value.bool true:=r'
    refine⟨rfl,OldK.of_keep fun b o e=>?_,os,bare⟩
    cases q:H b with
    |none=>exact un.keep b o e q (by intro z;exact absurd (show b∈([]:List Addr) from z) (by simp)) (by simp)
    |some u =>
     rcases hO b with z|⟨ob,xs,z⟩
     ·rw[q] at z;cases z
     ·have z2:=un.frzs b ob _ z
      obtain⟨e1,_⟩:=hok b _ z
      obtain⟨e2,_⟩:=hok' b _ z2
      rw[e] at e1;cases e1
      exact e2
 cases hk:K.lookup a with
 |some o =>
  have e:=KX a o hk
  rw[ha] at e
  cases e
  refine core (fun _=>none) (fun _=>.inl rfl) (.inr ⟨_,vs.toArray,_,hk,rfl,rfl,rfl,by rw[List.size_toArray,lenV];exact hl,by simpa using rv⟩) (fun b u z=>by have z':(none:Option HO)=some u:=z;cases z') (fun b z=>absurd rfl z) fun z=>absurd rfl z
 |none =>
  refine core (fun b=>if b=a then some (.frz { cls:=.type "list", data:=.seq vs.toArray } (.lst (ns.map V.int))) else none) (fun b=>?_) (.inl (.inr ⟨{ cls:=.type "list", data:=.seq vs.toArray },if_pos rfl⟩)) (fun b u z=>?_) (fun b z=>?_) fun _=>hk
  ·by_cases hb:b=a
   ·exact .inr ⟨_,_,if_pos hb⟩
   ·exact .inl (if_neg hb)
  ·by_cases hb:b=a
   ·have z':=(if_pos hb).symm.trans z
    cases z'
    subst hb
    exact⟨ha,by rw[List.length_map];exact hl,vs,_,rv,ha⟩
   ·have z':=(if_neg hb).symm.trans z
    cases z'
  ·by_cases hb:b=a
   ·exact hb
   ·exact absurd (if_neg hb) z
end L2
namespace L2
open PySem PySem.Spec PyProof.Rows
abbrev KOf {K:PySem.W.Frag}{h:Heap}(_:K.In h):PySem.W.Frag:=K
theorem walk_of {l:PySem.W.OpenLaw}{n k:Nat}{q:Program}{loose:List Str}{XP:(Str->Option Value)->Heap->Prop}{YP:World->Heap->Prop}{d:DefRec}{K:Params->PySem.W.Frag}{CX:World->CXT}{sp:World->Sp}{x:Str}(hn:l.most=some n)(hn2:n<=sizeLine)(hdf:d.params.defaults=[])(hr:Room k callerA)(hY:∀(w:World) (h:Heap),YP w h->(K w.params).In h)(F:∀(w:World) (mg:Str->Option Value) (fa:Addr) (h:Heap),(K w.params).In h->h.Ns mainGlobals mg->mg d.name=some (.ref fa) ->
   ∃fd:FuncData,(∀(s:Shared) (u:Value),BindsTo s fd ⟨[u],[]⟩ [(x,u)]) /\
    ∀base:Heap,(K w.params).In base->base.Ns mainGlobals mg->FnOk l.prog w (K w.params) mg base (CX w) k fa fd [x] (sp w))(hsp:∀(w:World) (H:Hp) (a:Addr) (ns:List Int),ns.length<=n->Only H->SqL (K w.params) H a (ns.map V.int)->sp w [.ref a] H (fun v _=>v=.bl true) fun _ _ _=>False)(hCX:∀(w:World) (H:Hp) (s:Shared) (e:Value) (s':Shared),CX w [] H s (fun _ _ _=>False) e s'->False) :
  PySem.W.WalkO q loose XP YP l.row.toRowW d [] (fun f vs=>PySem.call f vs):=by
 refine Att.attach_call hn hdf fun w s₀ s₁ mg mb fa o pm cd doc a vs ns G Y ho hd hcd hmg hobj hints hlen hg=>?_
 have KX:=hY w _ Y
 obtain⟨fd,hb,hF⟩:=F w mg fa _ KX G.T.g hmg
 exact law_call KX G.T.g G.T.b G.T.builtins G.T.nolimit hg hobj hints (Nat.le_trans hlen hn2) hr hF hb (fun H hO hS=>hsp w H a ns hlen hO hS) fun H e s'=>hCX w H s₁ e s'
end L2
namespace L2
open PySem PySem.Spec PyProof.Rows
def defArgs (s:Stmt):Arguments:=match s with
 |.FunctionDef _ a _ _ _ _ _ _ _ _=>a
 |_=>{ posonlyargs:=[],args:=[],vararg:=none,kwonlyargs:=[],kw_defaults:=[],kwarg:=none,defaults:=[] }
def defBody (s:Stmt):List Stmt:=match s with
 |.FunctionDef _ _ b _ _ _ _ _ _ _=>b
 |_=>[]
def defScope (s:Stmt):Scope:=match s with
 |.FunctionDef _ _ _ _ _ _ sc _ _ _=>sc
 |_=>{ kind:=.function,names:=[],isGenerator:=false,isCoroutine:=false }
abbrev CX0:CXT:=fun _ _ _ _ _ _=>False
abbrev E0:XK:=fun _ _ _=>False
theorem pass0 {X:Cx}:Passes CX0 X E0:=fun _ _ _ _ _ _ _ h=>h.elim
structure Fun (K:PySem.W.Frag) (x qual:Str) (st:Stmt) (f:Addr) (fd:FuncData):Prop where
 ex:∃(oc:Value) (od:Option Addr) (kV doc pm:Value) (an:Option Addr) (cdv ct:Value) (osl:Array (Option Value)),
  fd=PySem.W.fnOf x qual (defArgs st) (defBody st) (defScope st) .none kV doc pm an cdv ct/\K.lookup f=some ⟨oc,od,.func fd,osl⟩/\PySem.W.codeIn K cdv qual=true
 kp:PySem.W.keepIn K (.ref f)=true
section
variable {P:Program} {w:World} {K:PySem.W.Frag} {mg:Str->Option Value} {base:Heap}
theorem Fun.ok {x qual:Str}{st:Stmt}{f:Addr}{fd:FuncData}{N ps:List Str}{k:Nat}{sp:Sp}(F:Fun K x qual st f fd)(S:FnScope N ps (defScope st))(len:∀vs H Q E,sp vs H Q E->vs.length=ps.length)(hbody:∀(cdv:Value) (A:Around) (outer:List Env) (s:Shared) (H:Hp) (vs:List V) (Q:VK) (E:XK),Room k (A.deeper (envOfC qual (defScope st) s.heap.objs.size f cdv))->sp vs H Q E ->
   ∃t,PSs (cxOf CX0 P w K mg base N qual (defScope st) f cdv A outer s H E).nox (defBody st) t/\t { nx:=fun _ H'=>Q .non H',rt:=Q } (start N vs) H):FnOk P w K mg base CX0 (k+1) f fd ps sp:=by
 obtain⟨oc,od,kV,doc,pm,an,cdv,ct,osl,rfl,lk,hcd⟩:=F.ex
 refine fn_of lk hcd S len fun A outer s H vs Q E hr hsp=>?_
 obtain⟨t,h,q⟩:=hbody cdv A outer s H vs Q E hr hsp
 exact⟨t,h.nox,q⟩
theorem Fun.binds {x qual:Str}{st:Stmt}{f:Addr}{fd:FuncData}{ps:List Str}(F:Fun K x qual st f fd)(h:∀(kV doc pm:Value) (an:Option Addr) (cdv ct:Value) (us:List Value),us.length=ps.length->bindArgs (PySem.W.fnOf x qual (defArgs st) (defBody st) (defScope st) .none kV doc pm an cdv ct) ⟨us,[]⟩=pure (ps.zip us)):Binds K fd ps []:=by
 obtain⟨oc,od,kV,doc,pm,an,cdv,ct,osl,rfl,lk,hcd⟩:=F.ex
 exact .all (h kV doc pm an cdv ct)
theorem fun_mk {x qual:Str}{st:Stmt}{f:Addr}{oc:Value}{od an:Option Addr}{osl:Array (Option Value)}{kV doc pm cdv ct:Value}(l:K.lookup f=some ⟨oc,od,.func (PySem.W.fnOf x qual (defArgs st) (defBody st) (defScope st) .none kV doc pm an cdv ct),osl⟩)(c:PySem.W.codeIn K cdv qual=true)(k:PySem.W.keepIn K (.ref f)=true):Fun K x qual st f (PySem.W.fnOf x qual (defArgs st) (defBody st) (defScope st) .none kV doc pm an cdv ct):=⟨⟨oc,od,kV,doc,pm,an,cdv,ct,osl,rfl,l,c⟩,k⟩
end
section
variable {X:Cx}
theorem pv (i:Nat){x:Str}{pos:Pos}(hN:X.N[i]?=some x:=by rfl)(hv:Vis X.env.scope x:=by first|exact Or.inl rfl|exact Or.inr (Or.inl rfl)|exact Or.inr (Or.inr rfl)) (hd:(x==("__debug__" : Str))=false:=by decide)
  (hcd:(x==("__classdict__" : Str))=false:=by decide):PE X (.Name x pos) (tVar i):=pe_var hN hv hd hcd
end
def Same (H H':Hp):Prop:=∀b o,H b=some o->H' b=some o
theorem Same.refl (H:Hp):Same H H:=fun _ _ h=>h
theorem Same.trans {H H1 H2:Hp}(a:Same H H1)(b:Same H1 H2):Same H H2:=fun c o h=>b c o (a c o h)
theorem Same.free {H H':Hp}(e:Same H H'){l:Addr}(h:H' l=Option.none):H l=Option.none:=by
 cases q:H l with
 |none=>rfl
 |some o =>
  rw[e l o q] at h
  cases h
theorem Same.seq {K:PySem.W.Frag}{H H':Hp}{a:Addr}{xs:List V}(e:Same H H')(h:SqL K H a xs):SqL K H' a xs:=by
 rcases h with(h|⟨o,h⟩)|h
 ·exact .inl (.inl (e _ _ h))
 ·exact .inl (.inr ⟨o,e _ _ h⟩)
 ·exact .inr h
end L2
namespace L2
open PySem PySem.Spec PyProof.Rows
section
variable {X:Cx}
end
section
variable {κ:Type} [DecidableEq κ]
end
end L2
set_option maxHeartbeats 4000000
namespace DL
open PySem PySem.Spec PyProof.Rows L2
inductive D where
 |non|bl (b:Bool)|int (i:Int)|str (x:Str)|tup (ds:List D)|lst (ds:List D)
structure XV where
 cls:Str
 ns:List Str
 ds:List D
inductive M (α:Type) where
 |ok (a:α)|ex (x:XV)|bad
def M.bind {α β:Type}(r:M α)(k:α->M β):M β:=match r with
 |.ok a=>k a
 |.ex x=>.ex x
 |.bad=>.bad
@[simp] theorem M.bind_ok {α β:Type}(a:α)(k:α->M β):(M.ok a).bind k=k a:=rfl
@[simp] theorem M.bind_ex {α β:Type}(x:XV)(k:α->M β):(M.ex x:M α).bind k=.ex x:=rfl
@[simp] theorem M.bind_bad {α β:Type}(k:α->M β):(M.bad:M α).bind k=.bad:=rfl
inductive S where
 |im (d:D)|ow (ds:List D)|od (kvs:List (List Key×D))|dk (kvs:List (Key×D))|xc (x:XV)|fn (x:Str)
def S.own:S->Bool
 |.im _=>false
 |.xc _=>false
 |.fn _=>false
 |_=>true
abbrev DSt:=List (Option S)
section
variable (K:PySem.W.Frag) (H:Hp)
mutual
def Rep:D->V->Prop
 |.non,v=>v=.non
 |.bl b,v=>v=.bl b
 |.int i,v=>v=.int i
 |.str x,v=>v=.str x
 |.tup ds,v=>∃a xs,v=.ref a/\H a=some (.tup xs)/\Reps ds xs
 |.lst ds,v=>∃a xs,v=.ref a/\SqL K H a xs/\Reps ds xs
def Reps:List D->List V->Prop
 |[],xs=>xs=[]
 |d::ds,xs=>∃x r,xs=x::r/\Rep d x/\Reps ds r
end
end
def RepKV (K:PySem.W.Frag)(H:Hp){κ:Type}:List (κ×D)->List (κ×V)->Prop:=Paired fun p q=>p.1=q.1/\Rep K H p.2 q.2
def S.at (K:PySem.W.Frag)(Hf H:Hp)(p:Addr):S->Prop
 |.im _=>False
 |.xc _=>False
 |.fn _=>False
 |.ow ds=>∃xs,H p=some (.lst xs)/\Reps K Hf ds xs
 |.od kvs=>∃ys,H p=some (.dT ys)/\RepKV K Hf kvs ys
 |.dk kvs=>∃ys,H p=some (.dK ys)/\RepKV K Hf kvs ys
theorem _root_.L2.Same.seqT {K:PySem.W.Frag}{H H':Hp}{a:Addr}{xs:List V}(e:Same H H')(h:SqT K H a xs):SqT K H' a xs:=by
 rcases h with(h|⟨o,h⟩)|h
 ·exact .inl (.inl (e _ _ h))
 ·exact .inl (.inr ⟨o,e _ _ h⟩)
 ·exact .inr h
section
variable {K:PySem.W.Frag} {H H':Hp}
mutual
theorem Rep.mono (e:Same H H'):∀{d:D} {v:V},Rep K H d v->Rep K H' d v
 |.non,_,h=>by unfold Rep at h ⊢;exact h
 |.bl _,_,h=>by unfold Rep at h ⊢;exact h
 |.int _,_,h=>by unfold Rep at h ⊢;exact h
 |.str _,_,h=>by unfold Rep at h ⊢;exact h
 |.tup ds,_,h=>by
  unfold Rep at h ⊢
  obtain⟨a,xs,e1,e2,e3⟩:=h
  exact⟨a,xs,e1,e _ _ e2,Reps.mono e e3⟩
 |.lst ds,_,h=>by
  unfold Rep at h ⊢
  obtain⟨a,xs,e1,e2,e3⟩:=h
  exact⟨a,xs,e1,e.seq e2,Reps.mono e e3⟩
theorem Reps.mono (e:Same H H'):∀{ds:List D} {xs:List V},Reps K H ds xs->Reps K H' ds xs
 |[],_,h=>by unfold Reps at h ⊢;exact h
 |d::ds,_,h=>by
  unfold Reps at h ⊢
  obtain⟨x,r,e1,e2,e3⟩:=h
  exact⟨x,r,e1,Rep.mono e e2,Reps.mono e e3⟩
end
theorem rep_non {v:V}:Rep K H .non v↔v=.non:=by unfold Rep;exact Iff.rfl
theorem rep_bl {b:Bool}{v:V}:Rep K H (.bl b) v↔v=.bl b:=by unfold Rep;exact Iff.rfl
theorem rep_int {i:Int}{v:V}:Rep K H (.int i) v↔v=.int i:=by unfold Rep;exact Iff.rfl
theorem rep_str {x:Str}{v:V}:Rep K H (.str x) v↔v=.str x:=by unfold Rep;exact Iff.rfl
theorem rep_tup {ds:List D}{v:V}:Rep K H (.tup ds) v↔∃a xs,v=.ref a/\H a=some (.tup xs)/\Reps K H ds xs:=by rw[Rep]
theorem rep_tupQ {ds:List D}{v:V}(h:Rep K H (.tup ds) v):∃a xs,v=.ref a/\SqT K H a xs/\Reps K H ds xs:=by
 obtain⟨a,xs,e1,e2,e3⟩:=rep_tup.mp h
 exact⟨a,xs,e1,SqT.of e2,e3⟩
theorem rep_lst {ds:List D}{v:V}:Rep K H (.lst ds) v↔∃a xs,v=.ref a/\SqL K H a xs/\Reps K H ds xs:=by rw[Rep]
theorem reps_nil {xs:List V}:Reps K H [] xs↔xs=[]:=by rw[Reps]
theorem reps_cons {d:D}{ds:List D}{xs:List V}:Reps K H (d::ds) xs↔∃x r,xs=x::r/\Rep K H d x/\Reps K H ds r:=by rw[Reps]
theorem Reps.nil:Reps K H [] []:=reps_nil.mpr rfl
theorem Reps.cons {d:D}{ds:List D}{x:V}{xs:List V}(h:Rep K H d x)(t:Reps K H ds xs):Reps K H (d::ds) (x::xs):=reps_cons.mpr ⟨x,xs,rfl,h,t⟩
theorem Reps.length:∀{ds:List D} {xs:List V},Reps K H ds xs->ds.length=xs.length
 |[],_,h=>by rw[reps_nil.mp h];rfl
 |d::ds,_,h=>by
  obtain⟨x,r,rfl,_,t⟩:=reps_cons.mp h
  rw[List.length_cons,List.length_cons,Reps.length t]
theorem Reps.get:∀{ds:List D} {xs:List V} {i:Nat} {d:D},Reps K H ds xs->ds[i]?=some d->∃x,xs[i]?=some x/\Rep K H d x
 |[],_,_,_,_,e=>by simp at e
 |_::ds,_,0,_,h,e=>by
  obtain⟨x,r,rfl,q,t⟩:=reps_cons.mp h
  simp at e;subst e;exact⟨x,rfl,q⟩
 |_::ds,_,i+1,_,h,e=>by
  obtain⟨x,r,rfl,q,t⟩:=reps_cons.mp h
  obtain⟨y,e1,e2⟩:=Reps.get (i:=i) t (by simpa using e)
  exact⟨y,by simpa using e1,e2⟩
theorem Reps.append:∀{ds es:List D} {xs ys:List V},Reps K H ds xs->Reps K H es ys->Reps K H (ds++es) (xs++ys)
 |[],_,_,_,h,t=>by rw[reps_nil.mp h];exact t
 |_::ds,_,_,_,h,t=>by
  obtain⟨x,r,rfl,q,u⟩:=reps_cons.mp h
  exact .cons q (Reps.append u t)
theorem Reps.take:∀{ds:List D} {xs:List V} (n:Nat),Reps K H ds xs->Reps K H (ds.take n) (xs.take n)
 |_,_,0,_=>by simpa using Reps.nil
 |[],_,n+1,h=>by rw[reps_nil.mp h];simpa using Reps.nil
 |_::ds,_,n+1,h=>by
  obtain⟨x,r,rfl,q,u⟩:=reps_cons.mp h
  exact .cons q (Reps.take n u)
theorem Reps.drop:∀{ds:List D} {xs:List V} (n:Nat),Reps K H ds xs->Reps K H (ds.drop n) (xs.drop n)
 |_,_,0,h=>by simpa using h
 |[],_,n+1,h=>by rw[reps_nil.mp h];simpa using Reps.nil
 |_::ds,_,n+1,h=>by
  obtain⟨x,r,rfl,q,u⟩:=reps_cons.mp h
  exact Reps.drop n u
theorem Reps.none_of {ds:List D}{xs:List V}{i:Nat}(h:Reps K H ds xs)(e:ds[i]?=none):xs[i]?=none:=by
 have:=h.length
 rw[List.getElem?_eq_none_iff] at e ⊢
 lia
end
theorem RepKV.mono {K:PySem.W.Frag}{H H':Hp}(e:Same H H'){κ:Type}{a:List (κ×D)}{b:List (κ×V)}(r:RepKV K H a b):RepKV K H' a b:=Paired.mapP r fun _ _ q=>⟨q.1,q.2.mono e⟩
theorem at_some {K:PySem.W.Frag}{Hf H:Hp}{p:Addr}{s:S}(h:S.at K Hf H p s):∃o,H p=some o:=by
 cases s with
 |im d=>exact h.elim
 |xc x=>exact h.elim
 |fn x=>exact h.elim
 |ow ds=>obtain⟨xs,e,_⟩:=h;exact⟨_,e⟩
 |od kvs=>obtain⟨ys,e,_⟩:=h;exact⟨_,e⟩
 |dk kvs=>obtain⟨ys,e,_⟩:=h;exact⟨_,e⟩
theorem at_move {K:PySem.W.Frag}{Hf Hf' H H':Hp}{p:Addr}{s:S}(h:S.at K Hf H p s)(e:Same Hf Hf')(q:∀o,H p=some o->H' p=some o):S.at K Hf' H' p s:=by
 cases s with
 |im d=>exact h.elim
 |xc x=>exact h.elim
 |fn x=>exact h.elim
 |ow ds=>obtain⟨xs,e1,e2⟩:=h;exact⟨xs,q _ e1,e2.mono e⟩
 |od kvs=>obtain⟨ys,e1,e2⟩:=h;exact⟨ys,q _ e1,e2.mono e⟩
 |dk kvs=>obtain⟨ys,e1,e2⟩:=h;exact⟨ys,q _ e1,e2.mono e⟩
def XO (a:Addr)(C:Addr)(dx:Option Addr):HO:=.ext fun h=>∃oe vs,h.get? a=some oe/\oe.cls=.ref C/\oe.dict=dx/\oe.data=.fields vs
def XF (Hf:Hp)(ns:List Str)(xs:List V):Option Addr->Prop
 |none=>ns=[]/\xs=[]
 |some dx=>Hf dx=some (.xd (ns.zip xs))/\ns.length=xs.length
theorem XF.mono {H H':Hp}(e:Same H H'){ns:List Str}{xs:List V}:∀{dx:Option Addr},XF H ns xs dx->XF H' ns xs dx
 |none,h=>h
 |some _,h=>⟨e _ _ h.1,h.2⟩
def RepE (K:PySem.W.Frag)(Hf:Hp)(x:XV)(v:V):Prop :=
 ∃a C dx xs,v=.ref a/\Hf a=some (XO a C dx)/\PySem.W.nsIn K mainGlobals x.cls=some (some (.ref C))/\XF Hf x.ns xs dx/\Reps K Hf x.ds xs
theorem RepE.mono {K:PySem.W.Frag}{H H':Hp}(e:Same H H'){x:XV}{v:V}(h:RepE K H x v):RepE K H' x v:=by
 obtain⟨a,C,dx,xs,e1,e2,e3,e4,e5⟩:=h
 exact⟨a,C,dx,xs,e1,e _ _ e2,e3,e4.mono e,e5.mono e⟩
def RepS (K:PySem.W.Frag)(Hf:Hp):S->V->Prop
 |.im d,v=>Rep K Hf d v
 |.xc x,v=>RepE K Hf x v
 |.fn x,v=>∃a,v=.ref a/\PySem.W.nsIn K mainGlobals x=some (some (.ref a))
 |_,_=>True
theorem RepS.mono {K:PySem.W.Frag}{H H':Hp}(e:Same H H'){t:S}{v:V}(h:RepS K H t v):RepS K H' t v:=by
 cases t with
 |im d=>exact Rep.mono e h
 |xc x=>exact RepE.mono e h
 |fn x=>exact h
 |_=>trivial
def Lv (H:Hp)(a:Addr):Prop:=∃o,H a=some o/\∀xs,o≠.tup xs
theorem Lv.nn {H:Hp}{a:Addr}(h:Lv H a):H a≠none:=by
 obtain⟨o,e,_⟩:=h
 rw[e];simp
theorem Lv.lst {H:Hp}{a:Addr}{xs:List V}(e:H a=some (.lst xs)):Lv H a:=⟨_,e,fun _ q=>by cases q⟩
theorem _root_.L2.Same.lv {H H':Hp}(e:Same H H'){a:Addr}(h:Lv H a):Lv H' a:=let ⟨o,q,n⟩:=h;⟨o,e a o q,n⟩
theorem at_lv {K:PySem.W.Frag}{Hf H:Hp}{p:Addr}{s:S}(h:S.at K Hf H p s):Lv H p:=by
 cases s with
 |im d=>exact h.elim
 |xc x=>exact h.elim
 |fn x=>exact h.elim
 |ow ds=>obtain⟨xs,e,_⟩:=h;exact⟨_,e,fun _ q=>by cases q⟩
 |od kvs=>obtain⟨xs,e,_⟩:=h;exact⟨_,e,fun _ q=>by cases q⟩
 |dk kvs=>obtain⟨xs,e,_⟩:=h;exact⟨_,e,fun _ q=>by cases q⟩
structure Gr (Hf H Hf' H':Hp):Prop where
 fz:Same Hf Hf'
 sub:Same Hf' H'
 all:Same H H'
 ban:∀a,Lv H a->Hf a=none->Hf' a=none
theorem Gr.refl {Hf H:Hp}(h:Same Hf H):Gr Hf H Hf H:=⟨Same.refl _,h,Same.refl _,fun _ _ e=>e⟩
theorem _root_.L2.Same.ne {H H':Hp}(e:Same H H'){a:Addr}(h:H a≠none):H' a≠none:=by
 cases q:H a with
 |none=>exact absurd q h
 |some o=>rw[e a o q];simp
theorem Gr.trans {Hf H Hf1 H1 Hf2 H2:Hp}(a:Gr Hf H Hf1 H1)(b:Gr Hf1 H1 Hf2 H2):Gr Hf H Hf2 H2 :=
 ⟨a.fz.trans b.fz,b.sub,a.all.trans b.all,fun c h e=>b.ban c (a.all.lv h) (a.ban c h e)⟩
theorem same_upd {H:Hp}{p:Addr}(h:H p=none)(o:HO):Same H (upd H p o):=fun b u q=>by rw[upd_ne (ne_of_none q h)];exact q
theorem _root_.L2.Same.upd {Hf H:Hp}(e:Same Hf H)(p:Addr)(o:HO):Same (L2.upd Hf p o) (L2.upd H p o):=fun b u q=>by
 by_cases hb:b=p
 ·subst hb;rw[upd_same] at q ⊢;exact q
 ·rw[upd_ne hb] at q ⊢;exact e b u q
theorem Gr.alloc {Hf H:Hp}(e:Same Hf H){p:Addr}(h:H p=none)(o:HO):Gr Hf H (upd Hf p o) (upd H p o) :=
 ⟨same_upd (e.free h) o,Same.upd e p o,same_upd h o,fun a ha ea=>by
  have:a≠p:=fun z=>ha.nn (z▸h)
  rw[upd_ne this];exact ea⟩
structure SR (K:PySem.W.Frag) (H0:Hp) (B:Addr->Prop) (Hf:Hp) (sd:DSt) (σ:L2.St) (H:Hp):Prop where
 sub:Same Hf H
 all:Same H0 H
 ban:∀a,B a->Hf a=none
 bt:∀a,B a->Lv H0 a
 len:sd.length=σ.length
 imS:∀(i:Nat) (t:S),sd[i]?=some (some t)->t.own=false->∃v,σ[i]?=some (some v)/\RepS K Hf t v
 ow:∀(i:Nat) (t:S),sd[i]?=some (some t)->t.own=true->∃p,σ[i]?=some (some (.ref p))/\H0 p=none/\Hf p=none/\S.at K Hf H p t
 sep:∀(i j:Nat) (t u:S) (p:Addr),i≠j->sd[i]?=some (some t)->t.own=true->sd[j]?=some (some u)->u.own=true->σ[i]?=some (some (.ref p))->σ[j]?=some (some (.ref p))->False
section
variable {K:PySem.W.Frag} {H0 Hf Hf' H H':Hp} {B:Addr->Prop} {sd:DSt} {σ:L2.St}
theorem SR.im (r:SR K H0 B Hf sd σ H):∀(i:Nat) (d:D),sd[i]?=some (some (.im d))->∃v,σ[i]?=some (some v)/\Rep K Hf d v:=fun i _ e=>r.imS i _ e rfl
theorem SR.gr (r:SR K H0 B Hf sd σ H)(g:Gr Hf H Hf' H'):SR K H0 B Hf' sd σ H' where
 sub:=g.sub
 all:=r.all.trans g.all
 ban:=fun a h=>g.ban a (r.all.lv (r.bt a h)) (r.ban a h)
 bt:=r.bt
 len:=r.len
 imS:=fun i d e z=>let ⟨v,e1,e2⟩:=r.imS i d e z;⟨v,e1,e2.mono g.fz⟩
 ow:=fun i t e ho=>by
  obtain⟨p,e1,e2,e3,e4⟩:=r.ow i t e ho
  obtain⟨o,eo⟩:=at_some e4
  exact⟨p,e1,e2,g.ban p (at_lv e4) e3,at_move e4 g.fz fun o h=>g.all _ _ h⟩
 sep:=r.sep
theorem SR.set_st (r:SR K H0 B Hf sd σ H)(i:Nat){d:S}{v:V}(hd:d.own=false)(h:RepS K Hf d v):SR K H0 B Hf (sd.set i (some d)) (σ.set i (some v)) H where
 sub:=r.sub
 all:=r.all
 ban:=r.ban
 bt:=r.bt
 len:=by rw[List.length_set,List.length_set];exact r.len
 imS:=fun j d' e z=>by
  by_cases hj:i=j
  ·subst hj
   have hi:i<sd.length:=by
    have:=(List.getElem?_eq_some_iff.mp e).1;simpa using this
   rw[List.getElem?_set_self hi] at e
   cases e
   exact⟨v,by rw[List.getElem?_set_self (by rw[<-r.len];exact hi)],h⟩
  ·rw[List.getElem?_set_ne hj] at e ⊢
   exact r.imS j d' e z
 ow:=fun j t e ho=>by
  by_cases hj:i=j
  ·subst hj
   have hi:i<sd.length:=by
    have:=(List.getElem?_eq_some_iff.mp e).1;simpa using this
   rw[List.getElem?_set_self hi] at e
   cases e
   rw[hd] at ho;cases ho
  ·rw[List.getElem?_set_ne hj] at e ⊢
   exact r.ow j t e ho
 sep:=fun j k t u p hjk e1 o1 e2 o2 e3 e4=>by
  have ne:∀{l:Nat} {fs:S},(sd.set i (some d))[l]?=some (some fs)->fs.own=true->i≠l:=fun {l fs} e o z=>by
   subst z
   have hi:i<sd.length:=by
    have:=(List.getElem?_eq_some_iff.mp e).1;simpa using this
   rw[List.getElem?_set_self hi] at e
   cases e
   rw[hd] at o;cases o
  have n1:=ne e1 o1
  have n2:=ne e2 o2
  rw[List.getElem?_set_ne n1] at e1 e3
  rw[List.getElem?_set_ne n2] at e2 e4
  exact r.sep j k t u p hjk e1 o1 e2 o2 e3 e4
theorem SR.set_im (r:SR K H0 B Hf sd σ H)(i:Nat){d:D}{v:V}(h:Rep K Hf d v):SR K H0 B Hf (sd.set i (some (.im d))) (σ.set i (some v)) H:=r.set_st (d:=.im d) i rfl h
theorem SR.set_own (r:SR K H0 B Hf sd σ H)(i:Nat){p:Addr}{o:HO}{t:S}(hp:H p=none)(ho:t.own=true)(h:S.at K Hf (upd H p o) p t):SR K H0 B Hf (sd.set i (some t)) (σ.set i (some (.ref p))) (upd H p o) where
 sub:=r.sub.trans (same_upd hp _)
 all:=r.all.trans (same_upd hp _)
 ban:=r.ban
 bt:=r.bt
 len:=by rw[List.length_set,List.length_set];exact r.len
 imS:=fun j d' e z=>by
  by_cases hj:i=j
  ·subst hj
   have hi:i<sd.length:=by
    have:=(List.getElem?_eq_some_iff.mp e).1;simpa using this
   rw[List.getElem?_set_self hi] at e
   cases e
   rw[ho] at z;cases z
  ·rw[List.getElem?_set_ne hj] at e ⊢
   exact r.imS j d' e z
 ow:=fun j u e hu=>by
  by_cases hj:i=j
  ·subst hj
   have hi:i<sd.length:=by
    have:=(List.getElem?_eq_some_iff.mp e).1;simpa using this
   rw[List.getElem?_set_self hi] at e
   cases e
   exact⟨p,by rw[List.getElem?_set_self (by rw[<-r.len];exact hi)],r.all.free hp,r.sub.free hp,h⟩
  ·rw[List.getElem?_set_ne hj] at e ⊢
   obtain⟨q,e1,e2,e3,e4⟩:=r.ow j u e hu
   exact⟨q,e1,e2,e3,at_move e4 (Same.refl _) fun o h=>same_upd hp _ _ _ h⟩
 sep:=fun j k u w q hjk e1 o1 e2 o2 e3 e4=>by
  have new:∀{l:Nat},i=l->(σ.set i (some (V.ref p)))[l]?=some (some (.ref q))->q=p:=fun {l} z e=>by
   subst z
   have hi:i<σ.length:=by
    have:=(List.getElem?_eq_some_iff.mp e).1;simpa using this
   rw[List.getElem?_set_self hi] at e
   cases e;rfl
  have old:∀{l:Nat} {u:S},i≠l->(sd.set i (some t))[l]?=some (some u)->u.own=true->(σ.set i (some (V.ref p)))[l]?=some (some (.ref q))->q≠p:=fun {l u} n e ou z=>by
   rw[List.getElem?_set_ne n] at e z
   obtain⟨q',e1,_,_,e4⟩:=r.ow l u e ou
   rw[z] at e1
   cases e1
   obtain⟨o,eo⟩:=at_some e4
   exact ne_of_none eo hp
  by_cases n1:i=j
  ·have n2:i≠k:=fun z=>hjk (n1.symm.trans z)
   exact old n2 e2 o2 e4 (new n1 e3)
  ·by_cases n2:i=k
   ·exact old n1 e1 o1 e3 (new n2 e4)
   ·rw[List.getElem?_set_ne n1] at e1 e3
    rw[List.getElem?_set_ne n2] at e2 e4
    exact r.sep j k u w q hjk e1 o1 e2 o2 e3 e4
theorem SR.change (r:SR K H0 B Hf sd σ H){i:Nat}{p:Addr}{o:HO}{t u:S}(ht:sd[i]?=some (some t))(ot:t.own=true)(hi:σ[i]?=some (some (.ref p)))(ou:u.own=true)(h:S.at K Hf (upd H p o) p u):SR K H0 B Hf (sd.set i (some u)) σ (upd H p o):=by
 obtain⟨p',z1,z2,z3,z4⟩:=r.ow i t ht ot
 rw[hi] at z1
 cases z1
 have hl:i<sd.length:=(List.getElem?_eq_some_iff.mp ht).1
 have back:∀{j:Nat} {w:S},i≠j->(sd.set i (some u))[j]?=some (some w)->sd[j]?=some (some w):=fun {j w} n e=>by rwa[List.getElem?_set_ne n] at e
 refine⟨fun b v q=>?_,fun b v q=>?_,r.ban,r.bt,by rw[List.length_set];exact r.len,fun j d e z=>?_,fun j w e ow=>?_,fun j k w x q hjk e1 o1 e2 o2 e3 e4=>?_⟩
 ·rw[upd_ne (ne_of_none q z3)];exact r.sub b v q
 ·rw[upd_ne (ne_of_none q z2)];exact r.all b v q
 ·by_cases n:i=j
  ·subst n
   rw[List.getElem?_set_self hl] at e
   cases e
   rw[ou] at z;cases z
  ·exact r.imS j d (back n e) z
 ·by_cases n:i=j
  ·subst n
   rw[List.getElem?_set_self hl] at e
   cases e
   exact⟨p,hi,z2,z3,h⟩
  ·obtain⟨q,e1,e2,e3,e4⟩:=r.ow j w (back n e) ow
   refine⟨q,e1,e2,e3,at_move e4 (Same.refl _) fun o' h'=>?_⟩
   have:q≠p:=fun z=>by
    subst z
    exact r.sep i j t w q n ht ot (back n e) ow hi e1
   rw[upd_ne this];exact h'
 ·have get:∀{l:Nat} {w:S},(sd.set i (some u))[l]?=some (some w)->w.own=true->∃w',sd[l]?=some (some w')/\w'.own=true:=fun {l w} e ow=>by
   by_cases n:i=l
   ·subst n;exact⟨t,ht,ot⟩
   ·exact⟨w,back n e,ow⟩
  obtain⟨w',a1,a2⟩:=get e1 o1
  obtain⟨x',b1,b2⟩:=get e2 o2
  exact r.sep j k w' x' q hjk a1 a2 b1 b2 e3 e4
theorem SR.freeze (r:SR K H0 B Hf sd σ H){i:Nat}{ds:List D}(ht:sd[i]?=some (some (.ow ds))):∃Hf',Same Hf Hf'/\SR K H0 B Hf' (sd.set i (some (.im (.lst ds)))) σ H:=by
 obtain⟨p,z1,z2,z3,xs,z4,z5⟩:=r.ow i _ ht rfl
 have hl:i<sd.length:=(List.getElem?_eq_some_iff.mp ht).1
 have back:∀{j:Nat} {w:S},i≠j->(sd.set i (some (S.im (.lst ds))))[j]?=some (some w)->sd[j]?=some (some w):=fun {j w} n e=>by rwa[List.getElem?_set_ne n] at e
 have sm:=same_upd z3 (.lst xs)
 refine⟨upd Hf p (.lst xs),sm,fun b v q=>?_,r.all,fun a h=>?_,r.bt,by rw[List.length_set];exact r.len,fun j d e z=>?_,fun j w e ow=>?_,fun j k w x q hjk e1 o1 e2 o2 e3 e4=>?_⟩
 ·by_cases hb:b=p
  ·subst hb;rw[upd_same] at q;rw[z4];exact q
  ·rw[upd_ne hb] at q;exact r.sub b v q
 ·have:a≠p:=fun z=>(r.bt a h).nn (z▸z2)
  rw[upd_ne this];exact r.ban a h
 ·by_cases n:i=j
  ·subst n
   rw[List.getElem?_set_self hl] at e
   cases e
   exact⟨_,z1,(rep_lst.mpr ⟨p,xs,rfl,SqL.of upd_same,z5.mono sm⟩:Rep K _ (.lst ds) _)⟩
  ·obtain⟨v,e1,e2⟩:=r.imS j d (back n e) z
   exact⟨v,e1,e2.mono sm⟩
 ·by_cases n:i=j
  ·subst n
   rw[List.getElem?_set_self hl] at e
   cases e
   cases ow
  ·obtain⟨q,e1,e2,e3,e4⟩:=r.ow j w (back n e) ow
   refine⟨q,e1,e2,?_,at_move e4 sm fun o' h'=>h'⟩
   have:q≠p:=fun z=>by
    subst z
    exact r.sep i j _ w q n ht rfl (back n e) ow z1 e1
   rw[upd_ne this];exact e3
 ·have ne:∀{l:Nat} {w:S},(sd.set i (some (S.im (.lst ds))))[l]?=some (some w)->w.own=true->i≠l:=fun {l w} e o z=>by
   subst z
   rw[List.getElem?_set_self hl] at e
   cases e
   cases o
  exact r.sep j k w x q hjk (back (ne e1 o1) e1) o1 (back (ne e2 o2) e2) o2 e3 e4
end
def RepX (K:PySem.W.Frag)(Hf _H:Hp)(x:XV)(c:Value)(dx:Option Addr):Prop :=
 ∃C xs,c=.ref C/\PySem.W.nsIn K mainGlobals x.cls=some (some (.ref C))/\XF Hf x.ns xs dx/\Reps K Hf x.ds xs
def Po (K:PySem.W.Frag)(E:XK){α β:Type}(R:Hp->Hp->α->β->Prop)(Hf H:Hp)(r:M α)(Q:β->Hp->Prop):Prop:=match r with
 |.ok a=>∀b Hf' H',Gr Hf H Hf' H'->R Hf' H' a b->Q b H'
 |.ex x=>∀c dx Hf' H',Gr Hf H Hf' H'->RepX K Hf' H' x c dx->E c dx H'
 |.bad=>False
def rV (K:PySem.W.Frag)(Hf _H:Hp)(d:D)(v:V):Prop:=Rep K Hf d v
def rA (K:PySem.W.Frag)(Hf _H:Hp)(ds:List D)(vs:List V):Prop:=Reps K Hf ds vs
def rQ {α:Type}(_Hf _H:Hp)(a b:α):Prop:=a=b
section
variable {K:PySem.W.Frag} {E:XK} {α β γ δ:Type} {R:Hp->Hp->α->β->Prop} {T:Hp->Hp->γ->δ->Prop} {Hf H Hf1 H1:Hp}
theorem Po.weak {r:M α}{Q:β->Hp->Prop}(g:Gr Hf H Hf1 H1)(h:Po K E R Hf H r Q):Po K E R Hf1 H1 r Q:=by
 cases r with
 |ok a=>exact fun b Hf' H' g' q=>h b Hf' H' (g.trans g') q
 |ex x=>exact fun c dx Hf' H' g' q=>h c dx Hf' H' (g.trans g') q
 |bad=>exact h
theorem Po.bind {r:M α}{k:α->M γ}{Q:δ->Hp->Prop}{Q1:β->Hp->Prop}(h:Po K E T Hf H (r.bind k) Q)(s:∀a b Hf1 H1,r=.ok a->Gr Hf H Hf1 H1->R Hf1 H1 a b->Po K E T Hf1 H1 (k a) Q->Q1 b H1):Po K E R Hf H r Q1:=by
 cases r with
 |ok a=>exact fun b Hf' H' g q=>s a b Hf' H' rfl g q (Po.weak g h)
 |ex x=>exact h
 |bad=>exact h
theorem Po.ret {a:α}{b:β}{Q:β->Hp->Prop}(e:Same Hf H)(h:Po K E R Hf H (.ok a) Q)(q:R Hf H a b):Q b H:=h b Hf H (Gr.refl e) q
end
def PEd (X:Cx)(E:XK)(e:Expr)(f:DSt->M D):Prop :=
 ∃t:TE,PE X e t/\∀(H0:Hp) (B:Addr->Prop) (Hf:Hp) (sd:DSt) (σ:L2.St) (H:Hp) (Q:VK),SR X.K H0 B Hf sd σ H->Po X.K E (rV X.K) Hf H (f sd) Q->t σ H Q
def PAd (X:Cx)(E:XK)(es:List Expr)(f:DSt->M (List D)):Prop :=
 ∃t:TA,PA X es t/\∀(H0:Hp) (B:Addr->Prop) (Hf:Hp) (sd:DSt) (σ:L2.St) (H:Hp) (Q:List V->Hp->Prop),SR X.K H0 B Hf sd σ H->Po X.K E (rA X.K) Hf H (f sd) Q->t σ H Q
def PTd (X:Cx)(E:XK)(e:Expr)(f:DSt->M Bool):Prop :=
 ∃t:TT,PT X e t/\∀(H0:Hp) (B:Addr->Prop) (Hf:Hp) (sd:DSt) (σ:L2.St) (H:Hp) (Q:Bool->Hp->Prop),SR X.K H0 B Hf sd σ H->Po X.K E rQ Hf H (f sd) Q->t σ H Q
def PWd (X:Cx)(E:XK)(e:Expr)(f:DSt->M Bool):Prop :=
 ∃t:TT,PW X e t/\∀(H0:Hp) (B:Addr->Prop) (Hf:Hp) (sd:DSt) (σ:L2.St) (H:Hp) (Q:Bool->Hp->Prop),SR X.K H0 B Hf sd σ H->Po X.K E rQ Hf H (f sd) Q->t σ H Q
def POd (X:Cx)(E:XK)(e:Option Expr)(f:DSt->M (Option Int)):Prop :=
 ∃t:TO,PO X e t/\∀(H0:Hp) (B:Addr->Prop) (Hf:Hp) (sd:DSt) (σ:L2.St) (H:Hp) (Q:Option Int->Hp->Prop),SR X.K H0 B Hf sd σ H->Po X.K E rQ Hf H (f sd) Q->t σ H Q
inductive O where
 |nx (sd:DSt)|rt (s:S)|bk (sd:DSt)|ct (sd:DSt)
structure Fin' (H0:Hp) (B:Addr->Prop) (Hf H:Hp):Prop where
 sub:Same Hf H
 all:Same H0 H
 ban:∀a,B a->Hf a=none
def RS (K:PySem.W.Frag)(H0 Hf H:Hp):S->V->Prop
 |.im d,v=>Rep K Hf d v
 |.xc x,v=>RepE K Hf x v
 |t,v=>∃p,v=.ref p/\H0 p=none/\Hf p=none/\S.at K Hf H p t
def PoS (K:PySem.W.Frag)(E:XK)(H0:Hp)(B:Addr->Prop)(Hf:Hp)(r:M O)(D:Ends):Prop:=match r with
 |.ok (.nx sd')=>∀σ' Hf' H',Same Hf Hf'->SR K H0 B Hf' sd' σ' H'->D.nx σ' H'
 |.ok (.bk sd')=>∀σ' Hf' H',Same Hf Hf'->SR K H0 B Hf' sd' σ' H'->D.bk σ' H'
 |.ok (.ct sd')=>∀σ' Hf' H',Same Hf Hf'->SR K H0 B Hf' sd' σ' H'->D.ct σ' H'
 |.ok (.rt s)=>∀v Hf' H',Same Hf Hf'->Fin' H0 B Hf' H'->RS K H0 Hf' H' s v->D.rt v H'
 |.ex x=>∀c dx Hf' H',Same Hf Hf'->Fin' H0 B Hf' H'->RepX K Hf' H' x c dx->E c dx H'
 |.bad=>False
theorem SR.fin {K:PySem.W.Frag}{H0 Hf H:Hp}{B:Addr->Prop}{sd:DSt}{σ:L2.St}(r:SR K H0 B Hf sd σ H):Fin' H0 B Hf H:=⟨r.sub,r.all,r.ban⟩
def PSd (X:Cx)(E:XK)(st:Stmt)(f:DSt->M O):Prop :=
 ∃t:TS,PS X st t/\∀(H0:Hp) (B:Addr->Prop) (Hf:Hp) (sd:DSt) (σ:L2.St) (H:Hp) (D:Ends),SR X.K H0 B Hf sd σ H->PoS X.K E H0 B Hf (f sd) D->t D σ H
def PSsd (X:Cx)(E:XK)(st:List Stmt)(f:DSt->M O):Prop :=
 ∃t:TS,PSs X st t/\∀(H0:Hp) (B:Addr->Prop) (Hf:Hp) (sd:DSt) (σ:L2.St) (H:Hp) (D:Ends),SR X.K H0 B Hf sd σ H->PoS X.K E H0 B Hf (f sd) D->t D σ H
theorem PoS.weak {K:PySem.W.Frag}{E:XK}{H0 Hf Hf1:Hp}{B:Addr->Prop}{r:M O}{D:Ends}(g:Same Hf Hf1)(h:PoS K E H0 B Hf r D):PoS K E H0 B Hf1 r D:=by
 cases r with
 |ok o =>
  cases o with
  |nx sd=>exact fun σ' Hf' H' e q=>h σ' Hf' H' (g.trans e) q
  |bk sd=>exact fun σ' Hf' H' e q=>h σ' Hf' H' (g.trans e) q
  |ct sd=>exact fun σ' Hf' H' e q=>h σ' Hf' H' (g.trans e) q
  |rt s=>exact fun v Hf' H' e q=>h v Hf' H' (g.trans e) q
 |ex x=>exact fun c dx Hf' H' e q=>h c dx Hf' H' (g.trans e) q
 |bad=>exact h
theorem PoS.bind {K:PySem.W.Frag}{E:XK}{H0 Hf H:Hp}{B:Addr->Prop}{sd:DSt}{σ:L2.St}{α β:Type}{R:Hp->Hp->α->β->Prop}{r:M α}{k:α->M O}{D:Ends}{Q1:β->Hp->Prop}(sr:SR K H0 B Hf sd σ H)(h:PoS K E H0 B Hf (r.bind k) D)(s:∀a b Hf1 H1,r=.ok a->Gr Hf H Hf1 H1->SR K H0 B Hf1 sd σ H1->R Hf1 H1 a b->PoS K E H0 B Hf1 (k a) D->Q1 b H1):Po K E R Hf H r Q1:=by
 cases r with
 |ok a=>exact fun b Hf' H' g q=>s a b Hf' H' rfl g (sr.gr g) q (PoS.weak g.fz h)
 |ex x=>exact fun c dx Hf' H' g q=>h c dx Hf' H' g.fz (sr.gr g).fin q
 |bad=>exact h
section
variable {X:Cx} {E:XK} {pos:Pos} {a b:Expr}
def eVar (i:Nat)(sd:DSt):M D:=match sd[i]? with
 |some (some (.im d))=>.ok d
 |_=>.bad
theorem pd_var (i:Nat){x:Str}(hN:X.N[i]?=some x:=by rfl)(hv:Vis X.env.scope x:=by first|exact Or.inl rfl|exact Or.inr (Or.inl rfl)|exact Or.inr (Or.inr rfl)) (hd:(x==("__debug__" : Str))=false:=by decide)
  (hcd:(x==("__classdict__" : Str))=false:=by decide):PEd X E (.Name x pos) (eVar i):=by
 refine⟨_,pe_var hN hv hd hcd,fun H0 B Hf sd σ H Q sr h=>?_⟩
 unfold eVar at h
 split at h
 ·rename_i d e
  obtain⟨v,e1,e2⟩:=sr.im i d e
  exact⟨v,e1,Po.ret sr.sub h e2⟩
 ·exact h.elim
def eC (d:D)(_:DSt):M D:=.ok d
theorem pd_int {i:Int}{j}:PEd X E (.Constant (.int i) j pos) (eC (.int i)):=⟨_,pe_int,fun _ _ _ _ _ _ _ sr h=>Po.ret sr.sub h (rep_int.mpr rfl)⟩
theorem pd_bl {i:Bool}{j}:PEd X E (.Constant (.bool i) j pos) (eC (.bl i)):=⟨_,pe_bl,fun _ _ _ _ _ _ _ sr h=>Po.ret sr.sub h (rep_bl.mpr rfl)⟩
theorem pd_non {j}:PEd X E (.Constant .none j pos) (eC .non):=⟨_,pe_non,fun _ _ _ _ _ _ _ sr h=>Po.ret sr.sub h (rep_non.mpr rfl)⟩
theorem pd_str {x}{j}:PEd X E (.Constant (.str x) j pos) (eC (.str x)):=⟨_,pe_str,fun _ _ _ _ _ _ _ sr h=>Po.ret sr.sub h (rep_str.mpr rfl)⟩
def OpD (X:Cx)(E:XK)(f:Value->Value->Sem Value)(g:D->D->M D):Prop :=
 ∃r:R2,OpR X f r/\∀(Hf H:Hp) (x y:V) (dx dy:D) (Q:VK),Same Hf H->Rep X.K Hf dx x->Rep X.K Hf dy y->Po X.K E (rV X.K) Hf H (g dx dy) Q->r x y H Q
def eOp (g:D->D->M D)(fa fb:DSt->M D)(sd:DSt):M D:=(fa sd).bind fun x=>(fb sd).bind fun y=>g x y
theorem two {fa fb:DSt->M D}{g:D->D->M D}{ta tb:TE}{r:R2}{H0:Hp}{B:Addr->Prop}{Hf:Hp}{sd:DSt}{σ:L2.St}{H:Hp}{Q:VK}(ha:∀(H0:Hp) (B:Addr->Prop) (Hf:Hp) (sd:DSt) (σ:L2.St) (H:Hp) (Q:VK),SR X.K H0 B Hf sd σ H->Po X.K E (rV X.K) Hf H (fa sd) Q->ta σ H Q)(hb:∀(H0:Hp) (B:Addr->Prop) (Hf:Hp) (sd:DSt) (σ:L2.St) (H:Hp) (Q:VK),SR X.K H0 B Hf sd σ H->Po X.K E (rV X.K) Hf H (fb sd) Q->tb σ H Q)(hr:∀(Hf H:Hp) (x y:V) (dx dy:D) (Q:VK),Same Hf H->Rep X.K Hf dx x->Rep X.K Hf dy y->Po X.K E (rV X.K) Hf H (g dx dy) Q->r x y H Q)(sr:SR X.K H0 B Hf sd σ H)(h:Po X.K E (rV X.K) Hf H (eOp g fa fb sd) Q):tOp r ta tb σ H Q:=by
 refine ha H0 B Hf sd σ H _ sr (Po.bind h fun dx x Hf1 H1 _ g1 rx h1=>?_)
 have sr1:=sr.gr g1
 refine hb H0 B Hf1 sd σ H1 _ sr1 (Po.bind h1 fun dy y Hf2 H2 _ g2 ry h2=>?_)
 exact hr Hf2 H2 x y dx dy Q g2.sub (Rep.mono g2.fz rx) ry h2
theorem pd_op {op:Operator}{g:D->D->M D}{fa fb:DSt->M D}(ho:OpD X E (binaryOp op) g)(ha:PEd X E a fa)(hb:PEd X E b fb):PEd X E (.BinOp a op b pos) (eOp g fa fb):=by
 obtain⟨r,hr,qr⟩:=ho
 obtain⟨ta,pa,qa⟩:=ha
 obtain⟨tb,pb,qb⟩:=hb
 exact⟨_,pe_op hr pa pb,fun H0 B Hf sd σ H Q sr h=>two qa qb qr sr h⟩
theorem pd_cmp {op:CmpOp}{g:D->D->M D}{fa fb:DSt->M D}(ho:OpD X E (compareOp op) g)(ha:PEd X E a fa)(hb:PEd X E b fb)(hm:behindInMarks op b=false):PEd X E (.Compare a [op] [b] pos) (eOp g fa fb):=by
 obtain⟨r,hr,qr⟩:=ho
 obtain⟨ta,pa,qa⟩:=ha
 obtain⟨tb,pb,qb⟩:=hb
 exact⟨_,pe_cmpR hr pa pb hm,fun H0 B Hf sd σ H Q sr h=>two qa qb qr sr h⟩
theorem OpD.or {f:Value->Value->Sem Value}{g g':D->D->M D}(h:OpD X E f g)(h':OpD X E f g')(p:D->D->Bool):OpD X E f (fun x y=>if p x y then g x y else g' x y):=by
 obtain⟨r,hr,qr⟩:=h
 obtain⟨r',hr',qr'⟩:=h'
 refine⟨_,hr.or hr',fun Hf H x y dx dy Q e rx ry q=>?_⟩
 dsimp only at q
 by_cases c:p dx dy=true
 ·rw[if_pos c] at q
  exact .inl (qr Hf H x y dx dy Q e rx ry q)
 ·rw[if_neg c] at q
  exact .inr (qr' Hf H x y dx dy Q e rx ry q)
def gI (c:Int->Int->Bool)(g:Int->Int->D):D->D->M D
 |.int i,.int j=>if c i j then .ok (g i j) else .bad
 |_,_=>.bad
def gI0 (g:Int->Int->D):D->D->M D
 |.int i,.int j=>.ok (g i j)
 |_,_=>.bad
theorem od_I0 {f:Value->Value->Sem Value}{gv:Int->Int->V}{gd:Int->Int->D}(h:OpR X f (rI0 gv))(hg:∀i j (H:Hp),Rep X.K H (gd i j) (gv i j)):OpD X E f (gI0 gd):=by
 refine⟨_,h,fun Hf H x y dx dy Q e rx ry q=>?_⟩
 unfold gI0 at q
 split at q
 ·rename_i i j
  exact⟨i,j,rep_int.mp rx,rep_int.mp ry,Po.ret e q (hg i j Hf)⟩
 ·exact q.elim
theorem od_I {f:Value->Value->Sem Value}{C:Int->Int->Prop}{c:Int->Int->Bool}{gv:Int->Int->V}{gd:Int->Int->D}(h:OpR X f (rI C gv))(hc:∀i j,c i j=true->C i j)(hg:∀i j (H:Hp),Rep X.K H (gd i j) (gv i j)):OpD X E f (gI c gd):=by
 refine⟨_,h,fun Hf H x y dx dy Q e rx ry q=>?_⟩
 unfold gI at q
 split at q
 ·rename_i i j
  split at q
  ·rename_i hcc
   exact⟨i,j,rep_int.mp rx,rep_int.mp ry,hc i j hcc,Po.ret e q (hg i j Hf)⟩
  ·exact q.elim
 ·exact q.elim
def gSub:D->D->M D:=gI0 fun i j=>.int (i - j)
def gLt:D->D->M D:=gI0 fun i j=>.bl (decide (i<j))
def gGt:D->D->M D:=gI0 fun i j=>.bl (decide (j<i))
def gGe:D->D->M D:=gI0 fun i j=>.bl (decide (j<=i))
theorem od_sub:OpD X E (binaryOp .Sub) gSub:=od_I0 op_sub fun _ _ _=>rep_int.mpr rfl
theorem od_lt:OpD X E (compareOp .Lt) gLt:=od_I0 op_lt fun _ _ _=>rep_bl.mpr rfl
theorem od_gt:OpD X E (compareOp .Gt) gGt:=od_I0 op_gt fun _ _ _=>rep_bl.mpr rfl
theorem od_ge:OpD X E (compareOp .GtE) gGe:=od_I0 op_ge fun _ _ _=>rep_bl.mpr rfl
end
end DL
set_option maxHeartbeats 4000000
namespace DL
open PySem PySem.Spec PyProof.Rows L2
section
variable {X:Cx} {E:XK} {pos:Pos} {a b:Expr}
theorem bits_of {i:Int}(h:i.natAbs<2 ^ 4000):Builtin.Int.intBits i<=2 ^ 20:=by
 unfold Builtin.Int.intBits
 split
 ·exact Nat.zero_le _
 ·rename_i hz
  have hn:i.natAbs≠0:=fun z=>hz (by rw[Int.natAbs_eq_zero.mp z];rfl)
  have:i.natAbs.log2<4000:=(Nat.log2_lt hn).mpr h
  have e:(2:Nat) ^ 20=1048576:=rfl
  lia
def CBig (i j:Int):Prop:=i.natAbs<2 ^ 4000/\j.natAbs<2 ^ 4000
def CNz (_i j:Int):Prop:=j≠0/\j.natAbs<2 ^ 4000
theorem log_of {j:Int}(h:j.natAbs<2 ^ 4000):j.natAbs.log2<9000:=by
 by_cases hn:j.natAbs=0
 ·rw[hn];decide
 ·have:j.natAbs.log2<4000:=(Nat.log2_lt hn).mpr h
  lia
theorem op_mulB:OpR X (binaryOp .Mult) (rI CBig fun i j=>.int (i*j)):=opI fun _ _ _ _ _ _ _ hc q=>mul_int q (IntMulOk.of_bits (bits_of hc.1) (bits_of hc.2))
theorem op_fdivB:OpR X (binaryOp .FloorDiv) (rI CNz fun i j=>.int (i.fdiv j)):=opI fun _ _ _ _ _ _ _ hc q=>floordiv_int hc.1 q (.inl (PyProof.noPylong_of_log2 (log_of hc.2)))
def sm (i:Int):Bool:=decide (i.natAbs<2 ^ 4000)
theorem sm_iff {i:Int}:sm i=true↔i.natAbs<2 ^ 4000:=decide_eq_true_iff
def gMul:D->D->M D:=gI (fun i j=>sm i&&sm j) fun i j=>.int (i*j)
def gFdiv:D->D->M D:=gI (fun _ j=>j != 0&&sm j) fun i j=>.int (i.fdiv j)
def gMod:D->D->M D:=gI (fun _ j=>j != 0) fun i j=>.int (i.fmod j)
def gPow:D->D->M D:=gI (fun i j=>decide (0<=j/\j<=1000/\i.natAbs<1000)) fun i j=>.int (i ^ j.toNat)
theorem od_mul:OpD X E (binaryOp .Mult) gMul:=od_I op_mulB (fun i j h=>by
 rw[Bool.and_eq_true] at h
 exact⟨sm_iff.mp h.1,sm_iff.mp h.2⟩) fun _ _ _=>rep_int.mpr rfl
theorem od_fdiv:OpD X E (binaryOp .FloorDiv) gFdiv:=od_I op_fdivB (fun i j h=>by
 rw[Bool.and_eq_true] at h
 exact⟨by simpa using h.1,sm_iff.mp h.2⟩) fun _ _ _=>rep_int.mpr rfl
theorem od_mod:OpD X E (binaryOp .Mod) gMod:=od_I op_modN (fun i j h=>by simpa using h) fun _ _ _=>rep_int.mpr rfl
theorem od_pow:OpD X E (binaryOp .Pow) gPow:=od_I op_pow (fun i j h=>by
 have h:=of_decide_eq_true h
 refine⟨h.1,by lia,?_⟩
 have e:(2:Nat) ^ 64=18446744073709551616:=rfl
 lia) fun _ _ _=>rep_int.mpr rfl
theorem atI_rep {K:PySem.W.Frag}{H:Hp}{ds:List D}{xs:List V}{i:Int}{d:D}(r:Reps K H ds xs)(e:atI ds i=some d):∃x,atI xs i=some x/\Rep K H d x:=by
 unfold atI at e ⊢
 rw[<-r.length]
 cases q:ixN ds.length i with
 |none=>rw[q] at e;cases e
 |some j =>
  rw[q] at e
  exact r.get e
def gIx:D->D->M D
 |.lst ds,.int i=>match atI ds i with
  |some d=>.ok d
  |none=>.bad
 |.tup ds,.int i=>match atI ds i with
  |some d=>.ok d
  |none=>.bad
 |.str z,.int i=>if z.length<=sizeLine then(match atI z.cps.toList i with
  |some c=>.ok (.str ⟨#[c]⟩)
  |none=>.bad) else .bad
 |_,_=>.bad
theorem pd_ix {fa fb:DSt->M D}(ha:PEd X E a fa)(hb:PEd X E b fb)(hs:PlainIx b):PEd X E (.Subscript a b pos) (eOp gIx fa fb):=by
 obtain⟨ta,pa,qa⟩:=ha
 obtain⟨tb,pb,qb⟩:=hb
 refine⟨_,pe_ix ix_seq pa pb hs,fun H0 B Hf sd σ H Q sr h=>two qa qb (fun Hf H x y dx dy Q e rx ry q=>?_) sr h⟩
 unfold gIx at q
 split at q
 ·rename_i ds i
  split at q
  ·rename_i d ei
   obtain⟨p,xs,rfl,hp,hr⟩:=rep_lst.mp rx
   obtain⟨v,e1,e2⟩:=atI_rep hr ei
   exact .inl ⟨p,xs,i,v,rfl,rep_int.mp ry,e.seq hp,e1,Po.ret e q e2⟩
  ·exact q.elim
 ·rename_i ds i
  split at q
  ·rename_i d ei
   obtain⟨p,xs,rfl,hp,hr⟩:=rep_tupQ rx
   obtain⟨v,e1,e2⟩:=atI_rep hr ei
   exact .inr (.inl ⟨p,xs,i,v,rfl,rep_int.mp ry,Same.seqT e hp,e1,Po.ret e q e2⟩)
  ·exact q.elim
 ·rename_i z i
  split at q
  ·rename_i hz
   split at q
   ·rename_i c ei
    exact .inr (.inr ⟨z,i,c,rep_str.mp rx,rep_int.mp ry,hz,ei,Po.ret e q (rep_str.mpr rfl)⟩)
   ·exact q.elim
  ·exact q.elim
 ·exact q.elim
def aNil (_:DSt):M (List D):=.ok []
def aCons (fa:DSt->M D)(fr:DSt->M (List D))(sd:DSt):M (List D):=(fa sd).bind fun d=>(fr sd).bind fun ds=>.ok (d::ds)
theorem pad_nil:PAd X E [] aNil:=⟨_,pa_nil,fun _ _ _ _ _ _ _ sr h=>Po.ret sr.sub h Reps.nil⟩
theorem pad_cons {es:List Expr}{fa:DSt->M D}{fr:DSt->M (List D)}(ha:PEd X E a fa)(hr:PAd X E es fr)(hs:starEach (a::es) X.env=(false,eval a X.env)::starEach es X.env:=by rfl):PAd X E (a::es) (aCons fa fr):=by
 obtain⟨ta,pa,qa⟩:=ha
 obtain⟨tr,pr,qr⟩:=hr
 refine⟨_,pa_cons pa pr hs,fun H0 B Hf sd σ H Q sr h=>?_⟩
 refine qa H0 B Hf sd σ H _ sr (Po.bind h fun d v Hf1 H1 _ g1 rv h1=>?_)
 refine qr H0 B Hf1 sd σ H1 _ (sr.gr g1) (Po.bind h1 fun ds vs Hf2 H2 _ g2 rs h2=>?_)
 exact Po.ret g2.sub h2 (Reps.cons (Rep.mono g2.fz rv) rs)
def few (ds:List D):Bool:=decide (ds.length<=1000000)
theorem few_line {K:PySem.W.Frag}{H:Hp}{ds:List D}{xs:List V}(h:few ds=true)(r:Reps K H ds xs):xs.length<=sizeLine:=by
 have:=of_decide_eq_true h
 have e:=sizeLine_eq
 rw[<-r.length,e]
 lia
def eTup (fs:DSt->M (List D))(sd:DSt):M D:=(fs sd).bind fun ds=>if few ds then .ok (.tup ds) else .bad
def eLst (fs:DSt->M (List D))(sd:DSt):M D:=(fs sd).bind fun ds=>if few ds then .ok (.lst ds) else .bad
theorem Gr.tup {K:PySem.W.Frag}{Hf H:Hp}{p:Addr}{ds:List D}{xs:List V}(e:Same Hf H)(hp:H p=none)(r:Reps K Hf ds xs):Rep K (upd Hf p (.tup xs)) (.tup ds) (.ref p) :=
 rep_tup.mpr ⟨p,xs,rfl,upd_same,r.mono (same_upd (e.free hp) _)⟩
theorem Gr.lst {K:PySem.W.Frag}{Hf H:Hp}{p:Addr}{ds:List D}{xs:List V}(e:Same Hf H)(hp:H p=none)(r:Reps K Hf ds xs):Rep K (upd Hf p (.lst xs)) (.lst ds) (.ref p) :=
 rep_lst.mpr ⟨p,xs,rfl,SqL.of upd_same,r.mono (same_upd (e.free hp) _)⟩
theorem pd_tup {es:List Expr}{fs:DSt->M (List D)}{x1}(h:PAd X E es fs):PEd X E (.Tuple es x1 pos) (eTup fs):=by
 obtain⟨t,p,q⟩:=h
 refine⟨_,pe_tup p,fun H0 B Hf sd σ H Q sr h=>?_⟩
 refine q H0 B Hf sd σ H _ sr (Po.bind h fun ds vs Hf1 H1 _ g1 rs h1=>?_)
 split at h1
 ·rename_i hf
  exact⟨few_line hf rs,fun p hp=>h1 _ _ _ (Gr.alloc g1.sub hp _) (Gr.tup g1.sub hp rs)⟩
 ·exact h1.elim
theorem pd_lst {es:List Expr}{fs:DSt->M (List D)}(h:PAd X E es fs):PEd X E (.List es pos) (eLst fs):=by
 obtain⟨t,p,q⟩:=h
 refine⟨_,pe_lst p,fun H0 B Hf sd σ H Q sr h=>?_⟩
 refine q H0 B Hf sd σ H _ sr (Po.bind h fun ds vs Hf1 H1 _ g1 rs h1=>?_)
 split at h1
 ·rename_i hf
  exact⟨few_line hf rs,fun p hp=>h1 _ _ _ (Gr.alloc g1.sub hp _) (Gr.lst g1.sub hp rs)⟩
 ·exact h1.elim
def CallD (X:Cx)(E:XK)(f:Value)(g:List D->M D):Prop :=
 ∃r,CallR X f r/\∀(Hf H:Hp) (xs:List V) (ds:List D) (Q:VK),Same Hf H->Reps X.K Hf ds xs->Po X.K E (rV X.K) Hf H (g ds) Q->r xs H Q
def eCB (g:List D->M D)(fs:DSt->M (List D))(sd:DSt):M D:=(fs sd).bind g
theorem pd_callB {x:Str}{id:String}{p:Pos}{g:List D->M D}{e:Expr}{es:List Expr}{fs:DSt->M (List D)}(hc:CallD X E (.builtin id) g)(hg:Gl X x)(hm:X.mg x=none)(hv:bootBuiltins x=some (.builtin id))(ha:PAd X E (e::es) fs)
  (hn:x ≠ "__name__" := by decide) (hdb:(x==("__debug__" : Str))=false:=by decide)
  (he:starEach (e::es) X.env=(false,eval e X.env)::starEach es X.env:=by rfl) (hpl:(backTo pos (starEach es X.env)).any (·.1)=false:=by rfl):PEd X E (.Call (.Name x p) (e::es) [] pos) (eCB g fs):=by
 obtain⟨r,hr,qr⟩:=hc
 obtain⟨t,pt,qt⟩:=ha
 refine⟨_,pe_callB hr hg hm hv pt hn hdb he hpl,fun H0 B Hf sd σ H Q sr h=>?_⟩
 exact qt H0 B Hf sd σ H _ sr (Po.bind h fun ds vs Hf1 H1 _ g1 rs h1=>qr Hf1 H1 vs ds Q g1.sub rs h1)
theorem pd_callT {x:Str}{T:String}{p:Pos}{g:List D->M D}{e:Expr}{es:List Expr}{fs:DSt->M (List D)}(hc:CallD X E (.type T) g)(hg:Gl X x)(hm:X.mg x=none)(hv:bootBuiltins x=some (.type T))(ha:PAd X E (e::es) fs)
  (hn:x ≠ "__name__" := by decide) (hdb:(x==("__debug__" : Str))=false:=by decide)
  (he:starEach (e::es) X.env=(false,eval e X.env)::starEach es X.env:=by rfl) (hpl:(backTo pos (starEach es X.env)).any (·.1)=false:=by rfl):PEd X E (.Call (.Name x p) (e::es) [] pos) (eCB g fs):=by
 obtain⟨r,hr,qr⟩:=hc
 obtain⟨t,pt,qt⟩:=ha
 refine⟨_,pe_callTy hr hg hm hv pt hn hdb he hpl,fun H0 B Hf sd σ H Q sr h=>?_⟩
 exact qt H0 B Hf sd σ H _ sr (Po.bind h fun ds vs Hf1 H1 _ g1 rs h1=>qr Hf1 H1 vs ds Q g1.sub rs h1)
theorem reps1 {K:PySem.W.Frag}{H:Hp}{d:D}{xs:List V}(r:Reps K H [d] xs):∃x,xs=[x]/\Rep K H d x:=by
 obtain⟨x,t,rfl,h,r2⟩:=reps_cons.mp r
 rw[reps_nil.mp r2];exact⟨x,rfl,h⟩
theorem reps2 {K:PySem.W.Frag}{H:Hp}{d e:D}{xs:List V}(r:Reps K H [d,e] xs):∃x y,xs=[x,y]/\Rep K H d x/\Rep K H e y:=by
 obtain⟨x,t,rfl,h,r2⟩:=reps_cons.mp r
 obtain⟨y,rfl,h2⟩:=reps1 r2
 exact⟨x,y,rfl,h,h2⟩
def bAbs:List D->M D
 |[.int i]=>.ok (.int (if i<0 then -i else i))
 |_=>.bad
theorem cd_abs:CallD X E (.builtin "abs") bAbs:=by
 refine⟨_,call_abs,fun Hf H xs ds Q e r q=>?_⟩
 unfold bAbs at q
 split at q
 ·obtain⟨x,rfl,h⟩:=reps1 r
  rw[rep_int.mp h]
  exact⟨_,rfl,Po.ret e q (rep_int.mpr rfl)⟩
 ·exact q.elim
def bInt:List D->M D
 |[.int i]=>.ok (.int i)
 |[.bl b]=>.ok (.int (if b then 1 else 0))
 |_=>.bad
theorem cd_int:CallD X E (.type "int") bInt:=by
 refine⟨_,call_int1,fun Hf H xs ds Q e r q=>?_⟩
 unfold bInt at q
 split at q
 ·obtain⟨x,rfl,h⟩:=reps1 r
  rw[rep_int.mp h]
  exact .inl ⟨_,rfl,Po.ret e q (rep_int.mpr rfl)⟩
 ·obtain⟨x,rfl,h⟩:=reps1 r
  rw[rep_bl.mp h]
  exact .inr ⟨_,rfl,Po.ret e q (rep_int.mpr rfl)⟩
 ·exact q.elim
def bLen:List D->M D
 |[.lst ds]=>.ok (.int ds.length)
 |[.tup ds]=>.ok (.int ds.length)
 |[.str z]=>if z.length<=sizeLine then .ok (.int z.length) else .bad
 |_=>.bad
theorem cd_len:CallD X E (.builtin "len") bLen:=by
 refine⟨_,call_len_seq.or call_len_str,fun Hf H xs ds Q e r q=>?_⟩
 unfold bLen at q
 split at q
 ·obtain⟨x,rfl,h⟩:=reps1 r
  obtain⟨p,ys,rfl,hp,hr⟩:=rep_lst.mp h
  refine .inl ⟨p,ys,rfl,.inl (e.seq hp),?_⟩
  rw[<-hr.length]
  exact Po.ret e q (rep_int.mpr rfl)
 ·obtain⟨x,rfl,h⟩:=reps1 r
  obtain⟨p,ys,rfl,hp,hr⟩:=rep_tupQ h
  refine .inl ⟨p,ys,rfl,.inr (Same.seqT e hp),?_⟩
  rw[<-hr.length]
  exact Po.ret e q (rep_int.mpr rfl)
 ·split at q
  ·rename_i hz
   obtain⟨x,rfl,h⟩:=reps1 r
   rw[rep_str.mp h]
   exact .inr ⟨_,rfl,hz,Po.ret e q (rep_int.mpr rfl)⟩
  ·exact q.elim
 ·exact q.elim
def bList:List D->M D
 |[.lst ds]=>.ok (.lst ds)
 |[.tup ds]=>.ok (.lst ds)
 |_=>.bad
theorem cd_list:CallD X E (.type "list") bList:=by
 refine⟨_,call_list_of,fun Hf H xs ds Q e r q=>?_⟩
 unfold bList at q
 split at q
 ·obtain⟨x,rfl,h⟩:=reps1 r
  obtain⟨p,ys,rfl,hp,hr⟩:=rep_lst.mp h
  exact⟨p,ys,rfl,.inl (e.seq hp),fun l hl=>q _ _ _ (Gr.alloc e hl _) (Gr.lst e hl hr)⟩
 ·obtain⟨x,rfl,h⟩:=reps1 r
  obtain⟨p,ys,rfl,hp,hr⟩:=rep_tupQ h
  exact⟨p,ys,rfl,.inr (Same.seqT e hp),fun l hl=>q _ _ _ (Gr.alloc e hl _) (Gr.lst e hl hr)⟩
 ·exact q.elim
def asB:D->M Bool
 |.bl b=>.ok b
 |_=>.bad
def tB (f:DSt->M D)(sd:DSt):M Bool:=(f sd).bind asB
def tA (f g:DSt->M Bool)(sd:DSt):M Bool:=(f sd).bind fun b=>if b then g sd else .ok false
def tO (f g:DSt->M Bool)(sd:DSt):M Bool:=(f sd).bind fun b=>if b then .ok true else g sd
theorem ptd_val {e:Expr}{f:DSt->M D}(h:PEd X E e f)(he:∀whole,isTrue e X.env whole=(do let v <-whole;standAt e.pos;holding [v] (truthy v)):=by intro _;rfl):PTd X E e (tB f):=by
 obtain⟨t,p,q⟩:=h
 refine⟨_,pt_val p he,fun H0 B Hf sd σ H Q sr h=>?_⟩
 refine q H0 B Hf sd σ H _ sr (Po.bind h fun d v Hf1 H1 _ g1 rv h1=>?_)
 unfold asB at h1
 split at h1
 ·exact⟨_,rep_bl.mp rv,Po.ret (R:=rQ) g1.sub h1 rfl⟩
 ·exact h1.elim
theorem ptd_cmp {op:CmpOp}{g:D->D->M D}{fa fb:DSt->M D}(ho:OpD X E (compareOp op) g)(ha:PEd X E a fa)(hb:PEd X E b fb)(hm:behindInMarks op b=false):PTd X E (.Compare a [op] [b] pos) (tB (eOp g fa fb)):=by
 obtain⟨r,hr,qr⟩:=ho
 obtain⟨ta,pa,qa⟩:=ha
 obtain⟨tb,pb,qb⟩:=hb
 refine⟨_,pt_cmpR hr pa pb hm,fun H0 B Hf sd σ H Q sr h=>?_⟩
 refine two qa qb qr sr (Po.bind h fun d v Hf1 H1 _ g1 rv h1=>?_)
 unfold asB at h1
 split at h1
 ·exact⟨_,rep_bl.mp rv,Po.ret (R:=rQ) g1.sub h1 rfl⟩
 ·exact h1.elim
theorem PWd.pt {f:DSt->M Bool}{e:Expr}(h:PWd X E e f):PTd X E e f:=by
 obtain⟨t,p,q⟩:=h
 exact⟨t,p.pt,q⟩
theorem pwd_or1 {f:DSt->M Bool}(h:PTd X E a f):PWd X E (.BoolOp .Or [a] pos) f:=by
 obtain⟨t,p,q⟩:=h
 exact⟨t,pw_or1 p,q⟩
theorem pwd_or {rest:List Expr}{f g:DSt->M Bool}(h:PTd X E a f)(h2:PWd X E (.BoolOp .Or (b::rest) pos) g):PWd X E (.BoolOp .Or (a::b::rest) pos) (tO f g):=by
 obtain⟨t,p,q⟩:=h
 obtain⟨t2,p2,q2⟩:=h2
 refine⟨_,pw_or p p2,fun H0 B Hf sd σ H Q sr h=>?_⟩
 refine q H0 B Hf sd σ H _ sr (Po.bind h fun b v Hf1 H1 _ g1 rv h1=>?_)
 have e:b=v:=rv
 subst e
 cases b with
 |true=>rw[if_pos rfl] at h1 ⊢;exact Po.ret (R:=rQ) g1.sub h1 rfl
 |false=>rw[if_neg Bool.false_ne_true] at h1 ⊢;exact q2 H0 B Hf1 sd σ H1 Q (sr.gr g1) h1
def eIf (c:DSt->M Bool)(f g:DSt->M D)(sd:DSt):M D:=(c sd).bind fun b=>if b then f sd else g sd
theorem asB_ok {d:D}{b:Bool}(h:asB d=.ok b):d=.bl b:=by
 unfold asB at h
 split at h
 ·cases h;rfl
 ·cases h
theorem asB_noex {d:D}{x:XV}(h:asB d=.ex x):False:=by
 unfold asB at h
 split at h<;>cases h
theorem Po.asB {K:PySem.W.Frag}{α β:Type}{R:Hp->Hp->α->β->Prop}{Hf H:Hp}{d:D}{k:Bool->M α}{Q:β->Hp->Prop}(h:Po K E R Hf H ((asB d).bind k) Q):∃b,d=.bl b/\Po K E R Hf H (k b) Q:=by
 cases q:DL.asB d with
 |ok b=>rw[q] at h;exact⟨b,asB_ok q,h⟩
 |ex x=>exact(asB_noex q).elim
 |bad=>rw[q] at h;exact h.elim
theorem pd_ifexp {c:Expr}{f g:DSt->M D}{k:DSt->M Bool}(hc:PTd X E c k)(h:PEd X E a f)(h2:PEd X E b g):PEd X E (.IfExp c a b pos) (eIf k f g):=by
 obtain⟨t,p,q⟩:=hc
 obtain⟨t1,p1,q1⟩:=h
 obtain⟨t2,p2,q2⟩:=h2
 refine⟨_,pe_ifExp p p1 p2,fun H0 B Hf sd σ H Q sr h=>?_⟩
 refine q H0 B Hf sd σ H _ sr (Po.bind h fun c v Hf1 H1 _ g1 rv h1=>?_)
 have e:c=v:=rv
 subst e
 cases c with
 |true=>rw[if_pos rfl] at h1 ⊢;exact q1 H0 B Hf1 sd σ H1 Q (sr.gr g1) h1
 |false=>rw[if_neg Bool.false_ne_true] at h1 ⊢;exact q2 H0 B Hf1 sd σ H1 Q (sr.gr g1) h1
end
section
variable {X:Cx} {E:XK} {pos:Pos} {a b:Expr}
def sNil (sd:DSt):M O:=.ok (.nx sd)
def sSeq (f g:DSt->M O)(sd:DSt):M O:=(f sd).bind fun o=>match o with
 |.nx sd'=>g sd'
 |o=>.ok o
theorem psd_nil:PSsd X E [] sNil:=⟨_,pss_nil,fun _ _ Hf _ _ _ _ sr h=>h _ Hf _ (Same.refl _) sr⟩
theorem psd_one {st:Stmt}{f:DSt->M O}(h:PSd X E st f):PSsd X E [st] f:=by
 obtain⟨t,p,q⟩:=h
 exact⟨t,pss_one p,q⟩
theorem psd_cons {st:Stmt}{rest:List Stmt}{f g:DSt->M O}(h:PSd X E st f)(h2:PSsd X E rest g):PSsd X E (st::rest) (sSeq f g):=by
 obtain⟨t,p,q⟩:=h
 obtain⟨t2,p2,q2⟩:=h2
 refine⟨_,pss_cons p p2,fun H0 B Hf sd σ H D sr h=>?_⟩
 refine q H0 B Hf sd σ H _ sr ?_
 unfold sSeq at h
 cases e:f sd with
 |ok o =>
  rw[e] at h
  cases o with
  |nx sd'=>exact fun σ' Hf' H' e' sr'=>q2 H0 B Hf' sd' σ' H' D sr' (PoS.weak e' h)
  |rt s=>exact h
  |bk sd'=>exact h
  |ct sd'=>exact h
 |ex x=>rw[e] at h;exact h
 |bad=>rw[e] at h;exact h
def sSet (i:Nat)(f:DSt->M D)(sd:DSt):M O:=(f sd).bind fun d=>.ok (.nx (sd.set i (some (.im d))))
theorem psd_set (i:Nat){x:Str}{e:Expr}{f:DSt->M D}{pos':Pos}(hN:X.N.Nodup)(h:PEd X E e f)(hi:X.N[i]?=some x:=by rfl)(hx:Loc X.env.scope x:=by first|exact Or.inl rfl|exact Or.inr rfl)(hs:swapsWith e (some (.Name x pos')) pos.line X.env=pure false:=by rfl)(hf:X.fn x=true\/X.env.scope.names.lookup x=some .local:=by first|exact .inl rfl|exact .inr rfl|assumption) :
  PSd X E (.Assign [.Name x pos'] e pos) (sSet i f):=by
 obtain⟨t,p,q⟩:=h
 refine⟨_,ps_set hN hi hx p hs hf,fun H0 B Hf sd σ H D sr h=>?_⟩
 refine q H0 B Hf sd σ H _ sr (PoS.bind sr h fun d v Hf1 H1 _ g1 sr1 rv h1=>?_)
 exact h1 _ Hf1 H1 (Same.refl _) (sr1.set_im i rv)
def sRet (f:DSt->M D)(sd:DSt):M O:=(f sd).bind fun d=>.ok (.rt (.im d))
theorem psd_ret {e:Expr}{f:DSt->M D}(h:PEd X E e f):PSd X E (.Return (some e) pos) (sRet f):=by
 obtain⟨t,p,q⟩:=h
 refine⟨_,ps_ret p,fun H0 B Hf sd σ H D sr h=>?_⟩
 refine q H0 B Hf sd σ H _ sr (PoS.bind sr h fun d v Hf1 H1 _ g1 sr1 rv h1=>?_)
 exact h1 v Hf1 H1 (Same.refl _) sr1.fin rv
def sIf (c:DSt->M Bool)(f g:DSt->M O)(sd:DSt):M O:=(c sd).bind fun b=>if b then f sd else g sd
theorem psd_if {c:Expr}{xs ys:List Stmt}{k:DSt->M Bool}{f g:DSt->M O}(hc:PTd X E c k)(h:PSsd X E xs f)(h2:PSsd X E ys g):PSd X E (.If c xs ys pos) (sIf k f g):=by
 obtain⟨t,p,q⟩:=hc
 obtain⟨t1,p1,q1⟩:=h
 obtain⟨t2,p2,q2⟩:=h2
 refine⟨_,ps_if p p1 p2,fun H0 B Hf sd σ H D sr h=>?_⟩
 refine q H0 B Hf sd σ H _ sr (PoS.bind (R:=rQ) sr h fun c v Hf1 H1 _ g1 sr1 rv h1=>?_)
 have e:c=v:=rv
 subst e
 cases c with
 |true=>rw[if_pos rfl] at h1 ⊢;exact q1 H0 B Hf1 sd σ H1 D sr1 h1
 |false=>rw[if_neg Bool.false_ne_true] at h1 ⊢;exact q2 H0 B Hf1 sd σ H1 D sr1 h1
def whileD (c:DSt->M Bool)(f:DSt->M O):Nat->DSt->M O
 |0,_=>.bad
 |n+1,sd=>(c sd).bind fun b=>if b then((f sd).bind fun o=>match o with
   |.nx sd'=>whileD c f n sd'
   |.ct sd'=>whileD c f n sd'
   |.bk sd'=>.ok (.nx sd')
   |.rt s=>.ok (.rt s)) else .ok (.nx sd)
open Classical in
noncomputable def sWhile (c:DSt->M Bool)(f:DSt->M O)(sd:DSt):M O:=if h:∃n,whileD c f n sd≠.bad then whileD c f (choose h) sd else .bad
theorem whileD_mono (c:DSt->M Bool)(f:DSt->M O):∀(n m:Nat) (sd:DSt),n<=m->whileD c f n sd≠.bad->whileD c f m sd=whileD c f n sd
 |0,_,_,_,h=>absurd rfl h
 |n+1,0,_,hm,_=>absurd hm (by lia)
 |n+1,m+1,sd,hm,h=>by
  unfold whileD at h ⊢
  cases e:c sd with
  |ok b =>
   rw[e] at h
   simp only[M.bind_ok] at h ⊢
   cases b with
   |false=>rfl
   |true =>
    simp only[if_true] at h ⊢
    cases e2:f sd with
    |ok o =>
     rw[e2] at h
     simp only[M.bind_ok] at h ⊢
     cases o with
     |nx sd'=>exact whileD_mono c f n m sd' (by lia) h
     |ct sd'=>exact whileD_mono c f n m sd' (by lia) h
     |bk sd'=>rfl
     |rt s=>rfl
    |ex x=>rfl
    |bad=>rfl
  |ex x=>rfl
  |bad=>rfl
theorem sWhile_eq {c:DSt->M Bool}{f:DSt->M O}{n:Nat}{sd:DSt}(h:whileD c f n sd≠.bad):sWhile c f sd=whileD c f n sd:=by
 unfold sWhile
 have hx:∃n,whileD c f n sd≠.bad:=⟨n,h⟩
 rw[dif_pos hx]
 have h2:=Classical.choose_spec hx
 rcases Nat.le_total n (Classical.choose hx) with l|l
 ·exact whileD_mono c f _ _ sd l h
 ·exact(whileD_mono c f _ _ sd l h2).symm
theorem psd_while {c:Expr}{body:List Stmt}{k:DSt->M Bool}{f:DSt->M O}(hp:PassesOwn (model X.prog X.w) X.A X.env X.xe)(hc:PTd X E c k)(h:PSsd X E body f):PSd X E (.While c body [] pos) (sWhile k f):=by
 obtain⟨t,p,q⟩:=hc
 obtain⟨t1,p1,q1⟩:=h
 refine⟨_,ps_while hp p p1,fun H0 B Hf sd σ H D sr h=>?_⟩
 obtain⟨n,hn⟩:∃n,PoS X.K E H0 B Hf (whileD k f n sd) D:=by
  unfold sWhile at h
  split at h
  ·exact⟨_,h⟩
  ·exact h.elim
 refine⟨fun m σ' H'=>∃Hf' sd',Same Hf Hf'/\SR X.K H0 B Hf' sd' σ' H'/\PoS X.K E H0 B Hf' (whileD k f m sd') D,⟨n,Hf,sd,Same.refl _,sr,hn⟩,?_⟩
 rintro m σ1 H1 ⟨Hf1,sd1,e1,sr1,h1⟩
 cases m with
 |zero=>exact h1.elim
 |succ m =>
  unfold whileD at h1
  refine q H0 B Hf1 sd1 σ1 H1 _ sr1 (PoS.bind (R:=rQ) sr1 h1 fun c v Hf2 H2 _ g2 sr2 rv h2=>?_)
  have e:c=v:=rv
  subst e
  cases c with
  |false =>
   rw[if_neg Bool.false_ne_true] at h2 ⊢
   exact h2 σ1 Hf2 H2 (Same.refl _) sr2
  |true =>
   rw[if_pos rfl] at h2 ⊢
   refine⟨fun σ' H'=>∃Hf' sd',Same Hf Hf'/\SR X.K H0 B Hf' sd' σ' H'/\PoS X.K E H0 B Hf' (whileD k f m sd') D,fun σ' H' w=>⟨m,Nat.lt_succ_self m,w⟩,?_⟩
   refine q1 H0 B Hf2 sd1 σ1 H2 _ sr2 ?_
   cases e2:f sd1 with
   |ok o =>
    rw[e2] at h2
    cases o with
    |nx sd'=>exact fun σ' Hf' H' e' sr'=>⟨Hf',sd',e1.trans (g2.fz.trans e'),sr',PoS.weak e' h2⟩
    |ct sd'=>exact fun σ' Hf' H' e' sr'=>⟨Hf',sd',e1.trans (g2.fz.trans e'),sr',PoS.weak e' h2⟩
    |bk sd'=>exact h2
    |rt s=>exact h2
   |ex x=>rw[e2] at h2;exact h2
   |bad=>rw[e2] at h2;exact h2
end
end DL
set_option maxHeartbeats 4000000
namespace DL
open PySem PySem.Spec PyProof.Rows L2
section
variable {prog:Program} {w:World} {A:Around} {E:Value->Shared->Prop}
theorem draw_list {it t:Addr}{items:Array Value}(hne:t≠it):∀(n i:Nat) (s:Shared) (Q:List Value->Shared->Prop),s.heap.IsListIter it t i->s.heap.IsList t items->i+n<=items.size ->
  (∀h',h'.IsListIter it t (i+n)->Heap.SameBut it s.heap h'->Q ((items.toList.drop i).take n) { s with heap:=h' })->wpAny (model prog w) A (draw (.ref it) n) Q E s
 |0,i,s,Q,hit,_,_,hQ=>by
  show wpAny _ _ (pure []) Q E s
  exact wpAny_pure (by simpa using hQ s.heap hit (Heap.SameBut.refl ..))
 |n+1,i,s,Q,hit,ht,hle,hQ=>by
  have hlt:i<items.size:=by lia
  show wpAny _ _ (pyNext (.ref it)>>=_) Q E s
  refine wpAny_bind (wpAny_pyNext_list_item hit ht (x:=items[i]) (by simp[hlt]) fun h₁ hit₁ hs₁=>?_)
  refine wpAny_bind (wpAny_holding (draw_list hne n (i+1) _ _ hit₁ (ht.extBut hs₁.extBut hne) (by lia) fun h₂ hit₂ hs₂=>wpAny_pure ?_))
  have hd:items.toList.drop i=items[i]::items.toList.drop (i+1):=by simp[List.drop_eq_getElem_cons,hlt]
  have:=hQ h₂ (by rw[show i+(n+1)=i+1+n by lia];exact hit₂) (hs₁.trans hs₂)
  rw[hd,List.take_succ_cons] at this
  exact this
theorem unpackItems_list {s:Shared}{t:Addr}{items:Array Value}{Q:List Value->Shared->Prop}(hh:A.handled=none)(ht:s.heap.IsList t items)(hQ:∀h',Heap.ExtBut s.heap.objs.size s.heap h'->Q items.toList { s with heap:=h' }):wpAny (model prog w) A (unpackItems (.ref t) items.size none) Q E s:=by
 have hlt:t≠s.heap.objs.size:=by obtain⟨o,ho,_⟩:=ht;exact Nat.ne_of_lt (Heap.lt_size ho)
 unfold unpackItems
 refine wpAny_bind ?_
 ·unfold notIterableAtAll
  refine wpAny_bind (wpAny_specialOf ht.typeIs slot_list_iter.lookup ?_)
  refine wpAny_pure ?_
  simp only[Bool.false_eq_true,if_false]
  refine wpAny_bind (wpAny_holding (wpAny_pyIter_list ht ?_))
  refine wpAny_bind (wpAny_holding (draw_list hlt items.size 0 _ _ ⟨_,Heap.get?_push_size _ rfl,rfl,rfl⟩ (ht.push _) (by lia) fun h₁ hit₁ hs₁=>?_))
  have hall:List.take items.size (List.drop 0 items.toList)=items.toList:=by
   rw[List.drop_zero];exact List.take_of_length_le (by simp)
  rw[hall]
  rw[if_neg (by simp)]
  have ht₁:h₁.IsList t items:=(ht.push _).extBut hs₁.extBut hlt
  refine wpAny_bind (wpAny_holding (wpAny_pyNext_list_end hh hit₁ ht₁ (by simp) fun h₂ he₂=>?_))
  simp only[Option.isSome_none,Bool.false_eq_true,if_false]
  refine wpAny_pure (hQ h₂ fun b o hb e=>he₂ b o hb (hs₁.extBut b o hb (Heap.get?_push_of_some _ e)))
theorem assign_Tuple_list {s:Shared}{env:Env}{elts:List Expr}{x1}{pos:Pos}{t:Addr}{items:Array Value}{Q:Unit->Shared->Prop}(hh:A.handled=none)(ht:s.heap.IsList t items)(hn:(assignEach elts env).length=items.size)(hstar:(assignEach elts env).findIdx? (·.1)=none)(h:∀h',Heap.ExtBut s.heap.objs.size s.heap h'->wpAny (model prog w) A (assignInOrder ((assignEach elts env).map (·.2)) items.toList) Q E { s with heap:=h' }) :
  wpAny (model prog w) A (assign (.Tuple elts x1 pos) env (.ref t)) Q E s:=by
 rw[assign_Tuple]
 refine wpAny_bind (wpAny_standAt ?_)
 unfold unpack
 rw[hn,hstar]
 exact wpAny_bind (wpAny_holding (unpackItems_list hh ht h))
def chs (x:Str):List V:=x.cps.toList.map fun c=>V.str ⟨#[c]⟩
theorem draw_str {it:Addr}{x:Str}{t:Tok}:∀(n i:Nat) (s:Shared) (Q:List Value->Shared->Prop),s.heap.IsStrIter it "str_ascii_iterator" x t i->i+n<=x.cps.size ->
  (∀h' tk us,h'.IsStrIter it "str_ascii_iterator" x t (i+n)->Heap.SameBut it s.heap h'->Vals (((chs x).drop i).take n) us->Q us { s with heap:=h',toks:=tk })->wpAny (model prog w) A (draw (.ref it) n) Q E s
 |0,i,s,Q,hit,_,hQ=>by
  show wpAny _ _ (pure []) Q E s
  exact wpAny_pure (hQ s.heap s.toks [] hit (Heap.SameBut.refl ..) (by simpa using Paired.nil))
 |n+1,i,s,Q,hit,hle,hQ=>by
  have hlt:i<x.cps.size:=by lia
  show wpAny _ _ (pyNext (.ref it)>>=_) Q E s
  refine wpAny_bind (wpAny_pyNext_ascii_item hit (c:=x.cps[i]) (by simp[hlt]) fun h₁ hit₁ hs₁=>?_)
  refine wpAny_bind (wpAny_holding (draw_str n (i+1) _ _ hit₁ (by lia) fun h₂ tk us hit₂ hs₂ hv=>wpAny_pure ?_))
  have hd:(chs x).drop i=V.str ⟨#[x.cps[i]]⟩::(chs x).drop (i+1):=by
   have hl:i<(chs x).length:=by simp[chs,hlt]
   rw[List.drop_eq_getElem_cons hl];simp[chs]
  refine hQ h₂ tk _ (by rw[show i+(n+1)=i+1+n by lia];exact hit₂) (hs₁.trans hs₂) ?_
  rw[hd,List.take_succ_cons]
  exact .cons ⟨_,rfl⟩ hv
theorem unpackItems_str {s:Shared}{x:Str}{t:Tok}{Q:List Value->Shared->Prop}(hh:A.handled=none)(ha:x.cps.all (·<128)=true)(hQ:∀h' tk us,Heap.ExtBut s.heap.objs.size s.heap h'->Vals (chs x) us->Q us { s with heap:=h',toks:=tk }):wpAny (model prog w) A (unpackItems (.str x t) x.cps.size none) Q E s:=by
 unfold unpackItems
 refine wpAny_bind ?_
 ·unfold notIterableAtAll
  refine wpAny_bind (wpAny_specialOf (typeIs_str s x t) PySem.F.slot_str_iter.lookup ?_)
  refine wpAny_pure ?_
  simp only[Bool.false_eq_true,if_false]
  refine wpAny_bind (wpAny_holding (wpAny_pyIter_ascii ha ?_))
  refine wpAny_bind (wpAny_holding (draw_str x.cps.size 0 _ _ ⟨_,Heap.get?_push_size _ rfl,rfl,rfl⟩ (by lia) fun h₁ tk us hit₁ hs₁ hv=>?_))
  have hall:List.take x.cps.size (List.drop 0 (chs x))=chs x:=by
   rw[List.drop_zero];exact List.take_of_length_le (by simp[chs])
  rw[hall] at hv
  have hl:us.length=x.cps.size:=by rw[<-hv.length];simp[chs]
  rw[if_neg (by simp[hl])]
  refine wpAny_bind (wpAny_holding (wpAny_pyNext_ascii_end hh hit₁ (by simp) fun h₂ he₂=>?_))
  simp only[Option.isSome_none,Bool.false_eq_true,if_false]
  refine wpAny_pure (hQ h₂ tk us (fun b o hb e=>he₂ b o hb (hs₁.extBut b o hb (Heap.get?_push_of_some _ e))) hv)
theorem assign_Tuple_str {s:Shared}{env:Env}{elts:List Expr}{x1}{pos:Pos}{x:Str}{t:Tok}{Q:Unit->Shared->Prop}(hh:A.handled=none)(ha:x.cps.all (·<128)=true)(hn:(assignEach elts env).length=x.cps.size)(hstar:(assignEach elts env).findIdx? (·.1)=none)(h:∀h' tk us,Heap.ExtBut s.heap.objs.size s.heap h'->Vals (chs x) us->wpAny (model prog w) A (assignInOrder ((assignEach elts env).map (·.2)) us) Q E { s with heap:=h',toks:=tk }) :
  wpAny (model prog w) A (assign (.Tuple elts x1 pos) env (.str x t)) Q E s:=by
 rw[assign_Tuple]
 refine wpAny_bind (wpAny_standAt ?_)
 unfold unpack
 rw[hn,hstar]
 exact wpAny_bind (wpAny_holding (unpackItems_str hh ha h))
end
section
variable {X:Cx} {pos:Pos}
def gSeq (K:PySem.W.Frag)(n:Nat)(t:TGs):TG:=fun v σ H Q=>(∃a xs,v=.ref a/\(SqT K H a xs\/SqL K H a xs)/\xs.length=n/\t xs σ H Q)\/∃x:Str,v=.str x/\x.cps.all (·<128)=true/\x.cps.size=n/\t (chs x) σ H Q
theorem pg_seq {es:List Expr}{k:Nat}{t:TGs}{n:Nat}(hc:X.calm=true)(h:PGs X es t)(hn:(assignEach es X.env).length=n:=by rfl)(hst:(assignEach es X.env).findIdx? (·.1)=none:=by rfl):PG X (.Tuple es k pos) (gSeq X.K n t):=by
 intro pins s σ H v u Q I r hw
 rcases hw with⟨a,xs,e1,hq,hl,hw⟩|⟨x,e1,ha,hl,hw⟩
 case inr =>
  subst e1
  obtain⟨tk,rfl⟩:=(show ∃t,u=Value.str x t from r)
  refine assign_Tuple_str (I.ok.hd hc) ha (by rw[hn,hl]) hst fun h' tk us hx hv=>?_
  have I1:Inv X pins σ H { s with heap:=h',toks:=tk }:=I.kept (t':=tk) fun b o e=>hx b o (Nat.ne_of_lt (Heap.lt_size e)) e
  exact h pins _ σ H (chs x) _ Q I1 hv hw
 subst e1
 cases r
 rcases hq with hq|hq
 ·obtain⟨its,rv,ht,hz⟩:=I.tuple hq
  refine assign_Tuple_tuple (I.ok.hd hc) ht (by simp[hn,<-hl,rv.length]) hst fun h' hx=>?_
  have I1:Inv X pins σ H { s with heap:=h' }:=I.kept (t':=s.toks) fun b o e=>hx b o (Nat.ne_of_lt (Heap.lt_size e)) e
  exact h pins _ σ H xs _ Q I1 (by simpa using rv) hw
 ·obtain⟨its,rv,ht,hz⟩:=I.list hq
  refine assign_Tuple_list (I.ok.hd hc) ht.isList (by simp[hn,<-hl,rv.length]) hst fun h' hx=>?_
  have I1:Inv X pins σ H { s with heap:=h' }:=I.kept (t':=s.toks) fun b o e=>hx b o (Nat.ne_of_lt (Heap.lt_size e)) e
  exact h pins _ σ H xs _ Q I1 (by simpa using rv) hw
end
def PGd (X:Cx)(tg:Expr)(g:D->DSt->M DSt):Prop :=
 ∃t:TG,PG X tg t/\∀(H0:Hp) (B:Addr->Prop) (Hf:Hp) (sd:DSt) (σ:L2.St) (H:Hp) (v:V) (d:D) (sd':DSt) (Q:L2.St->Hp->Prop),SR X.K H0 B Hf sd σ H->Rep X.K Hf d v->g d sd=.ok sd' ->
  (∀σ',SR X.K H0 B Hf sd' σ' H->Q σ' H)->t v σ H Q
def PGsd (X:Cx)(ts:List Expr)(g:List D->DSt->M DSt):Prop :=
 ∃t:TGs,PGs X ts t/\∀(H0:Hp) (B:Addr->Prop) (Hf:Hp) (sd:DSt) (σ:L2.St) (H:Hp) (vs:List V) (ds:List D) (sd':DSt) (Q:L2.St->Hp->Prop),SR X.K H0 B Hf sd σ H->Reps X.K Hf ds vs->g ds sd=.ok sd' ->
  (∀σ',SR X.K H0 B Hf sd' σ' H->Q σ' H)->t vs σ H Q
section
variable {X:Cx} {E:XK} {pos:Pos} {a b:Expr}
def gNm (i:Nat)(d:D)(sd:DSt):M DSt:=.ok (sd.set i (some (.im d)))
theorem pgd_name (i:Nat){x:Str}(hN:X.N.Nodup)(hi:X.N[i]?=some x:=by rfl)(hx:Loc X.env.scope x:=by first|exact Or.inl rfl|exact Or.inr rfl)(hf:X.fn x=true\/X.env.scope.names.lookup x=some .local:=by first|exact .inl rfl|exact .inr rfl|assumption) :
  PGd X (.Name x pos) (gNm i):=by
 refine⟨_,pg_name hN hi hx hf,fun H0 B Hf sd σ H v d sd' Q sr r e h=>?_⟩
 cases e
 exact h _ (sr.set_im i r)
def gsNil:List D->DSt->M DSt
 |[],sd=>.ok sd
 |_,_=>.bad
def gsCons (g:D->DSt->M DSt)(gs:List D->DSt->M DSt):List D->DSt->M DSt
 |d::ds,sd=>(g d sd).bind fun sd'=>gs ds sd'
 |_,_=>.bad
theorem pgsd_nil:PGsd X [] gsNil:=by
 refine⟨_,pgs_nil,fun H0 B Hf sd σ H vs ds sd' Q sr r e h=>?_⟩
 cases ds with
 |nil=>cases e;exact⟨reps_nil.mp r,h σ sr⟩
 |cons d ds=>cases e
theorem pgsd_cons {es:List Expr}{g:D->DSt->M DSt}{gs:List D->DSt->M DSt}(h1:PGd X a g)(h2:PGsd X es gs)(hs:(assignEach (a::es) X.env).map (·.2)=assign a X.env::(assignEach es X.env).map (·.2):=by rfl):PGsd X (a::es) (gsCons g gs):=by
 obtain⟨t,p,q⟩:=h1
 obtain⟨t2,p2,q2⟩:=h2
 refine⟨_,pgs_cons p p2 hs,fun H0 B Hf sd σ H vs ds sd' Q sr r e h=>?_⟩
 cases ds with
 |nil=>cases e
 |cons d ds =>
  obtain⟨v,vr,rfl,rv,rr⟩:=reps_cons.mp r
  cases e1:g d sd with
  |ok sd1 =>
   have e':gs ds sd1=.ok sd':=by
    have e:(g d sd).bind (fun sd'=>gs ds sd')=.ok sd':=e
    rw[e1] at e
    exact e
   exact⟨v,vr,rfl,q H0 B Hf sd σ H v d sd1 _ sr rv e1 fun σ1 sr1=>q2 H0 B Hf sd1 σ1 H vr ds sd' Q sr1 rr e' h⟩
  |ex x=>have e:(g d sd).bind (fun sd'=>gs ds sd')=.ok sd':=e;rw[e1] at e;cases e
  |bad=>have e:(g d sd).bind (fun sd'=>gs ds sd')=.ok sd':=e;rw[e1] at e;cases e
def gTupD (n:Nat)(gs:List D->DSt->M DSt):D->DSt->M DSt
 |.tup ds,sd=>if ds.length=n then gs ds sd else .bad
 |.lst ds,sd=>if ds.length=n then gs ds sd else .bad
 |.str x,sd=>if x.cps.size=n/\x.cps.all (·<128)=true then gs (x.cps.toList.map fun c=>.str ⟨#[c]⟩) sd else .bad
 |_,_=>.bad
theorem reps_chs {K:PySem.W.Frag}{H:Hp}:∀l:List Nat,Reps K H (l.map fun c=>D.str ⟨#[c]⟩) (l.map fun c=>V.str ⟨#[c]⟩)
 |[]=>Reps.nil
 |_::l=>Reps.cons (rep_str.mpr rfl) (reps_chs l)
theorem pgd_tup {es:List Expr}{k:Nat}{gs:List D->DSt->M DSt}{n:Nat}(hc:X.calm=true)(h:PGsd X es gs)(hn:(assignEach es X.env).length=n:=by rfl)(hst:(assignEach es X.env).findIdx? (·.1)=none:=by rfl):PGd X (.Tuple es k pos) (gTupD n gs):=by
 obtain⟨t,p,q⟩:=h
 refine⟨_,pg_seq hc p hn hst,fun H0 B Hf sd σ H v d sd' Q sr r e h=>?_⟩
 unfold gTupD at e
 split at e
 ·rename_i ds
  split at e
  ·rename_i hl
   obtain⟨a,xs,rfl,ha,hr⟩:=rep_tupQ r
   exact .inl ⟨a,xs,rfl,.inl (Same.seqT sr.sub ha),by rw[<-hr.length];exact hl,q H0 B Hf sd σ H xs ds sd' Q sr hr e h⟩
  ·cases e
 ·rename_i ds
  split at e
  ·rename_i hl
   obtain⟨a,xs,rfl,ha,hr⟩:=rep_lst.mp r
   exact .inl ⟨a,xs,rfl,.inr (sr.sub.seq ha),by rw[<-hr.length];exact hl,q H0 B Hf sd σ H xs ds sd' Q sr hr e h⟩
  ·cases e
 ·rename_i x
  split at e
  ·rename_i hl
   exact .inr ⟨x,rep_str.mp r,hl.2,hl.1,q H0 B Hf sd σ H (chs x) _ sd' Q sr (reps_chs x.cps.toList) e h⟩
  ·cases e
 ·cases e
def sAsg (f:DSt->M D)(g:D->DSt->M DSt)(sd:DSt):M O:=(f sd).bind fun d=>match g d sd with
 |.ok sd'=>.ok (.nx sd')
 |_=>.bad
theorem psd_asg {e tg:Expr}{f:DSt->M D}{g:D->DSt->M DSt}(h:PEd X E e f)(hg:PGd X tg g)(hs:swapsWithSole [tg] e pos.line X.env=pure false:=by rfl)(hw:swappedStores [tg] e X.env=pure none:=by rfl)(h1:(assignEach [tg] X.env).map (·.2)=[assign tg X.env]:=by rfl):PSd X E (.Assign [tg] e pos) (sAsg f g):=by
 obtain⟨t,p,q⟩:=h
 obtain⟨tg',pg,qg⟩:=hg
 refine⟨_,ps_asg p pg hs hw h1,fun H0 B Hf sd σ H D sr h=>?_⟩
 refine q H0 B Hf sd σ H _ sr (PoS.bind sr h fun d v Hf1 H1 _ g1 sr1 rv h1=>?_)
 split at h1
 ·rename_i sd' e1
  exact qg H0 B Hf1 sd σ H1 v d sd' _ sr1 rv e1 fun σ' sr'=>h1 σ' Hf1 H1 (Same.refl _) sr'
 ·exact h1.elim
def sPar (i j:Nat)(fs:DSt->M (List D))(sd:DSt):M O:=(fs sd).bind fun ds=>match ds with
 |[d,e]=>.ok (.nx ((sd.set i (some (.im d))).set j (some (.im e))))
 |_=>.bad
theorem psd_par (i j:Nat){x y:Str}{fs:DSt->M (List D)}{px py pt:Pos}{kt k2 pt2}(hc:X.calm=true)(hN:X.N.Nodup)(ha:PAd X E [a,b] fs)(hw:swappedStores [.Tuple [.Name x px,.Name y py] kt pt] (.Tuple [a,b] k2 pt2) X.env=pure (some [x,y]))(hi:X.N[i]?=some x:=by rfl)(hj:X.N[j]?=some y:=by rfl)(hij:i≠j:=by decide)(hx:X.env.scope.names.lookup x=some .local:=by rfl)(hy:X.env.scope.names.lookup y=some .local:=by rfl)(hs:swapsWithSole [.Tuple [.Name x px,.Name y py] kt pt] (.Tuple [a,b] k2 pt2) pos.line X.env=pure false:=by rfl) :
  PSd X E (.Assign [.Tuple [.Name x px,.Name y py] kt pt] (.Tuple [a,b] k2 pt2) pos) (sPar i j fs):=by
 obtain⟨t,p,q⟩:=ha
 refine⟨_,ps_par hc hN hi hj hij hx hy p hw hs,fun H0 B Hf sd σ H D sr h=>?_⟩
 refine q H0 B Hf sd σ H _ sr (PoS.bind sr h fun ds vs Hf1 H1 _ g1 sr1 rs h1=>?_)
 split at h1
 ·rename_i d e
  obtain⟨v,w,rfl,rv,rw'⟩:=reps2 rs
  exact⟨v,w,rfl,h1 _ Hf1 H1 (Same.refl _) ((sr1.set_im i rv).set_im j rw')⟩
 ·exact h1.elim
def S.toD:S->M D
 |.im d=>.ok d
 |.ow ds=>.ok (.lst ds)
 |.od _=>.bad
 |.dk _=>.bad
 |.xc _=>.bad
 |.fn _=>.bad
def spN (K:PySem.W.Frag)(F:List D->M S):Sp:=fun vs H Q _=>∃Hf ds s,Same Hf H/\Reps K Hf ds vs/\F ds=.ok s/\∀v Hf' H',Gr Hf H Hf' H'->RS K H Hf' H' s v->Q v H'
def fin' (r:M O):M S:=r.bind fun o=>match o with
 |.rt s=>.ok s
 |.nx _=>.ok (.im .non)
 |_=>.bad
def fnD (n m:Nat)(f:DSt->M O)(ds:List D):M S:=if ds.length=n then fin' (f (ds.map (fun d=>some (S.im d))++List.replicate m none)) else .bad
theorem sr_start {K:PySem.W.Frag}{N:List Str}{Hf H:Hp}{ds:List D}{vs:List V}{m:Nat}(e:Same Hf H)(r:Reps K Hf ds vs)(hN:N.length=ds.length+m) :
  SR K H (fun a=>Lv H a/\Hf a=none) Hf (ds.map (fun d=>some (S.im d))++List.replicate m none) (L2.start N vs) H where
 sub:=e
 all:=Same.refl _
 ban:=fun _ h=>h.2
 bt:=fun _ h=>h.1
 len:=by
  unfold L2.start
  have:=r.length
  simp only[List.length_append,List.length_map,List.length_replicate]
  lia
 imS:=fun i d hi hz=>by
  unfold L2.start
  by_cases hl:i<ds.length
  ·rw[List.getElem?_append_left (by simpa using hl),List.getElem?_map] at hi
   cases q:ds[i]? with
   |none=>rw[q] at hi;cases hi
   |some d' =>
    rw[q] at hi
    cases hi
    obtain⟨v,e1,e2⟩:=r.get q
    refine⟨v,?_,e2⟩
    have:i<vs.length:=(List.getElem?_eq_some_iff.mp e1).1
    rw[List.getElem?_append_left (by simpa using this),List.getElem?_map,e1]
    rfl
  ·rw[List.getElem?_append_right (by simpa using hl),List.getElem?_replicate] at hi
   split at hi<;>cases hi
 ow:=fun i t hi ho=>by
  by_cases hl:i<ds.length
  ·rw[List.getElem?_append_left (by simpa using hl),List.getElem?_map] at hi
   cases q:ds[i]? with
   |none=>rw[q] at hi;cases hi
   |some d'=>rw[q] at hi;cases hi;cases ho
  ·rw[List.getElem?_append_right (by simpa using hl),List.getElem?_replicate] at hi
   split at hi<;>cases hi
 sep:=fun i j t _ p _ hi ho _ _ _ _=>by
  by_cases hl:i<ds.length
  ·rw[List.getElem?_append_left (by simpa using hl),List.getElem?_map] at hi
   cases q:ds[i]? with
   |none=>rw[q] at hi;cases hi
   |some d'=>rw[q] at hi;cases hi;cases ho
  ·rw[List.getElem?_append_right (by simpa using hl),List.getElem?_replicate] at hi
   split at hi<;>cases hi
theorem fn_d {P:Program}{w:World}{K:PySem.W.Frag}{mg:Str->Option Value}{base:Heap}{x qual:Str}{st:Stmt}{f:Addr}{fd:FuncData}{N ps:List Str}{k m n:Nat}{fb:DSt->M O}(F:Fun K x qual st f fd)(sc:FnScope N ps (defScope st))(hn:ps.length=n)(hN:N.length=n+m)(hbody:∀(cdv:Value) (A:Around) (outer:List Env) (s:Shared) (H:Hp) (E:XK),Room k (A.deeper (envOfC qual (defScope st) s.heap.objs.size f cdv)) ->
   PSsd (cxOf CX0 P w K mg base N qual (defScope st) f cdv A outer s H E).nox E0 (defBody st) fb):FnOk P w K mg base CX0 (k+1) f fd ps (spN K (fnD n m fb)):=by
 refine F.ok sc (fun vs H Q E h=>?_) (fun cdv A outer s H vs Q E hr h=>?_)
 ·obtain⟨Hf,ds,s,e,r,hF,_⟩:=h
  unfold fnD at hF
  split at hF
  ·rename_i hl
   rw[<-r.length,hl,hn]
  ·cases hF
 ·obtain⟨Hf,ds,s',e,r,hF,q⟩:=h
  obtain⟨t,p,qt⟩:=hbody cdv A outer s H E hr
  unfold fnD at hF
  split at hF
  ·rename_i hl
   refine⟨t,p,qt H _ Hf _ (L2.start N vs) H _ (sr_start (N:=N) (m:=m) e r (by lia)) ?_⟩
   generalize fb (List.map (fun d=>some (S.im d)) ds++List.replicate m none)=ro at hF
   have back:∀{v:V} {Hf' H':Hp} {s:DL.S},Same Hf Hf'->Fin' H (fun a=>Lv H a/\Hf a=none) Hf' H'->RS K H Hf' H' s v->s=s'->Q v H':=fun {v Hf' H' s} e1 e2 e3 e4=>by
    subst e4
    exact q v Hf' H' ⟨e1,e2.sub,e2.all,fun a h1 h2=>e2.ban a ⟨h1,h2⟩⟩ e3
   cases ro with
   |ok o =>
    cases o with
    |rt s2 =>
     have e':s2=s':=by cases hF;rfl
     exact fun v Hf' H' e1 e2 e3=>back e1 e2 e3 e'
    |nx sd' =>
     have e':DL.S.im .non=s':=by cases hF;rfl
     exact fun σ' Hf' H' e1 sr'=>back (v:=.non) (s:=DL.S.im .non) e1 sr'.fin (show Rep K Hf' .non .non from rep_non.mpr rfl) e'
    |bk sd'=>cases hF
    |ct sd'=>cases hF
   |ex x=>cases hF
   |bad=>cases hF
  ·cases hF
def eCall (F:List D->M S)(fs:DSt->M (List D))(sd:DSt):M D:=(fs sd).bind fun ds=>match F ds with
 |.ok s=>s.toD
 |_=>.bad
theorem pd_call {k:Nat}{f:Addr}{fd:FuncData}{ps:List Str}{F:List D->M S}{x:Str}{p:Pos}{es:List Expr}{fs:DSt->M (List D)}(G:FnOk X.prog X.w X.K X.mg X.base CX0 k f fd ps (spN X.K F))(hr:Room k X.A)(hm:X.mg x=some (.ref f))(hk:PySem.W.keepIn X.K (.ref f)=true)(hb:Binds X.K fd ps [])(ha:PAd X E (a::es) fs)(hg:Gl X x:=by rfl) (hdb:(x==("__debug__" : Str))=false:=by decide) (he:starEach (a::es) X.env=(false,eval a X.env)::starEach es X.env:=by rfl) (hpl:(backTo pos (starEach es X.env)).any (·.1)=false:=by rfl) :
  PEd X E (.Call (.Name x p) (a::es) [] pos) (eCall F fs):=by
 obtain⟨t,pt,qt⟩:=ha
 refine⟨_,pe_call (dvs:=[]) (E:=E0) G hr hg hm hk hb .nil pass0 pt hdb he hpl,fun H0 B Hf sd σ H Q sr h=>?_⟩
 refine qt H0 B Hf sd σ H _ sr (Po.bind h fun ds vs Hf1 H1 _ g1 rs h1=>?_)
 split at h1
 ·rename_i s e
  refine⟨Hf1,ds,s,g1.sub,by rw[List.append_nil];exact rs,e,fun v Hf' H' g2 rv=>?_⟩
  cases s with
  |im d=>exact h1 v Hf' H' g2 rv
  |ow es =>
   obtain⟨p,rfl,e1,e2,xs,e3,e4⟩:=rv
   refine h1 _ (upd Hf' p (.lst xs)) H' ⟨g2.fz.trans (same_upd e2 _),fun b u q=>?_,g2.all,fun a h1 h2=>?_⟩ (rep_lst.mpr ⟨p,xs,rfl,SqL.of upd_same,e4.mono (same_upd e2 _)⟩)
   ·by_cases hb:b=p
    ·subst hb;rw[upd_same] at q;rw[e3];exact q
    ·rw[upd_ne hb] at q;exact g2.sub b u q
   ·have:a≠p:=fun z=>h1.nn (z▸e1)
    rw[upd_ne this];exact g2.ban a h1 h2
  |od kvs=>exact h1.elim
  |dk kvs=>exact h1.elim
  |xc x=>exact h1.elim
  |fn x=>exact h1.elim
 ·exact h1.elim
end
end DL
set_option maxHeartbeats 4000000
namespace DL
open PySem PySem.Spec PyProof.Rows L2
mutual
def D.eq:D->D->Bool
 |.non,.non=>true
 |.bl a,.bl b=>a==b
 |.bl a,.int b=>(if a then 1 else 0)==b
 |.int a,.bl b=>a==(if b then 1 else 0)
 |.int a,.int b=>a==b
 |.str a,.str b=>a==b
 |.tup xs,.tup ys=>D.eqs xs ys
 |.lst xs,.lst ys=>D.eqs xs ys
 |_,_=>false
def D.eqs:List D->List D->Bool
 |[],[]=>true
 |x::xs,y::ys=>D.eq x y&&D.eqs xs ys
 |_,_=>false
end
mutual
def D.dep:D->Nat
 |.tup ds=>D.deps ds+1
 |.lst ds=>D.deps ds+1
 |_=>0
def D.deps:List D->Nat
 |[]=>0
 |d::ds=>max (D.dep d) (D.deps ds)
end
mutual
theorem D.eq_refl:∀d:D,D.eq d d=true
 |.non=>by rw[D.eq]
 |.bl b=>by rw[D.eq];simp
 |.int i=>by rw[D.eq];simp
 |.str x=>by rw[D.eq];simp
 |.tup ds=>by rw[D.eq];exact D.eqs_refl ds
 |.lst ds=>by rw[D.eq];exact D.eqs_refl ds
theorem D.eqs_refl:∀ds:List D,D.eqs ds ds=true
 |[]=>by rw[D.eqs]
 |d::ds=>by rw[D.eqs,D.eq_refl d,D.eqs_refl ds];rfl
end
theorem D.eqs_all:∀ds es:List D,D.eqs ds es=((List.range (min ds.length es.length)).all (fun j=>D.eq (ds.getD j .non) (es.getD j .non))&&ds.length==es.length)
 |[],[]=>by rw[D.eqs];rfl
 |[],_::_=>by rw[D.eqs];simp;all_goals (intros;simp_all)
 |_::_,[]=>by rw[D.eqs];simp;all_goals (intros;simp_all)
 |d::ds,e::es=>by
  have h:min (d::ds).length (e::es).length=min ds.length es.length+1:=by simp only[List.length_cons];lia
  rw[D.eqs,D.eqs_all ds es,h,List.range_succ_eq_map,List.all_cons,List.all_map,Bool.and_assoc]
  congr 1
  simp only[List.length_cons]
  congr 1
  by_cases q:ds.length=es.length
  ·simp[q]
  ·have q':¬ds.length+1=es.length+1:=by lia
   simp[q]
section
variable {X:Cx} {pins:List (Addr×Obj)} {σ:L2.St} {H:Hp} {s:Shared}
theorem seq_tl (I:Inv X pins σ H s){a:Addr}{xs ys:List V}(h1:SqT X.K H a xs)(h2:SqL X.K H a ys):False:=by
 obtain⟨its,_,⟨o,e,c,_⟩,_⟩:=I.tuple h1
 obtain⟨its2,_,p,_⟩:=I.list h2
 obtain⟨o2,e2,c2,_⟩:=p.isList
 rw[e] at e2
 cases e2
 rw[c] at c2
 exact absurd c2 (by decide)
mutual
theorem rep_inj (I:Inv X pins σ H s):∀(d d':D) (v:V),Rep X.K H d v->Rep X.K H d' v->d=d'
 |.non,d',v,h1,h2=>by
  rw[rep_non] at h1;subst h1
  cases d' with
  |non=>rfl
  |bl b=>rw[rep_bl] at h2;cases h2
  |int b=>rw[rep_int] at h2;cases h2
  |str b=>rw[rep_str] at h2;cases h2
  |tup b=>rw[rep_tup] at h2;obtain⟨_,_,e,_⟩:=h2;cases e
  |lst b=>rw[rep_lst] at h2;obtain⟨_,_,e,_⟩:=h2;cases e
 |.bl a,d',v,h1,h2=>by
  rw[rep_bl] at h1;subst h1
  cases d' with
  |non=>rw[rep_non] at h2;cases h2
  |bl b=>rw[rep_bl] at h2;cases h2;rfl
  |int b=>rw[rep_int] at h2;cases h2
  |str b=>rw[rep_str] at h2;cases h2
  |tup b=>rw[rep_tup] at h2;obtain⟨_,_,e,_⟩:=h2;cases e
  |lst b=>rw[rep_lst] at h2;obtain⟨_,_,e,_⟩:=h2;cases e
 |.int a,d',v,h1,h2=>by
  rw[rep_int] at h1;subst h1
  cases d' with
  |non=>rw[rep_non] at h2;cases h2
  |bl b=>rw[rep_bl] at h2;cases h2
  |int b=>rw[rep_int] at h2;cases h2;rfl
  |str b=>rw[rep_str] at h2;cases h2
  |tup b=>rw[rep_tup] at h2;obtain⟨_,_,e,_⟩:=h2;cases e
  |lst b=>rw[rep_lst] at h2;obtain⟨_,_,e,_⟩:=h2;cases e
 |.str a,d',v,h1,h2=>by
  rw[rep_str] at h1;subst h1
  cases d' with
  |non=>rw[rep_non] at h2;cases h2
  |bl b=>rw[rep_bl] at h2;cases h2
  |int b=>rw[rep_int] at h2;cases h2
  |str b=>rw[rep_str] at h2;cases h2;rfl
  |tup b=>rw[rep_tup] at h2;obtain⟨_,_,e,_⟩:=h2;cases e
  |lst b=>rw[rep_lst] at h2;obtain⟨_,_,e,_⟩:=h2;cases e
 |.tup ds,d',v,h1,h2=>by
  obtain⟨a,xs,rfl,ha,hr⟩:=rep_tupQ h1
  cases d' with
  |non=>rw[rep_non] at h2;cases h2
  |bl b=>rw[rep_bl] at h2;cases h2
  |int b=>rw[rep_int] at h2;cases h2
  |str b=>rw[rep_str] at h2;cases h2
  |tup es =>
   obtain⟨b,ys,e,hb,hr2⟩:=rep_tupQ h2
   cases e
   have:=I.tuple_inj ha hb
   subst this
   rw[reps_inj I ds es xs hr hr2]
  |lst es =>
   obtain⟨b,ys,e,hb,hr2⟩:=rep_lst.mp h2
   cases e
   exact(seq_tl I ha hb).elim
 |.lst ds,d',v,h1,h2=>by
  obtain⟨a,xs,rfl,ha,hr⟩:=rep_lst.mp h1
  cases d' with
  |non=>rw[rep_non] at h2;cases h2
  |bl b=>rw[rep_bl] at h2;cases h2
  |int b=>rw[rep_int] at h2;cases h2
  |str b=>rw[rep_str] at h2;cases h2
  |tup es =>
   obtain⟨b,ys,e,hb,hr2⟩:=rep_tupQ h2
   cases e
   exact(seq_tl I hb ha).elim
  |lst es =>
   obtain⟨b,ys,e,hb,hr2⟩:=rep_lst.mp h2
   cases e
   have:=I.list_inj ha hb
   subst this
   rw[reps_inj I ds es xs hr hr2]
theorem reps_inj (I:Inv X pins σ H s):∀(ds es:List D) (vs:List V),Reps X.K H ds vs->Reps X.K H es vs->ds=es
 |[],[],_,_,_=>rfl
 |[],e::es,vs,h1,h2=>by
  rw[reps_nil] at h1;subst h1
  obtain⟨_,_,z,_⟩:=reps_cons.mp h2
  cases z
 |d::ds,[],vs,h1,h2=>by
  rw[reps_nil] at h2;subst h2
  obtain⟨_,_,z,_⟩:=reps_cons.mp h1
  cases z
 |d::ds,e::es,vs,h1,h2=>by
  obtain⟨v,r,rfl,a1,a2⟩:=reps_cons.mp h1
  obtain⟨v',r',z,b1,b2⟩:=reps_cons.mp h2
  cases z
  rw[rep_inj I d e v a1 b1,reps_inj I ds es r a2 b2]
end
theorem EqAt.of_eq {A:Around}{u v:Value}{b c:Bool}(h:SeqAt.EqAt A s u v b)(e:b=c):SeqAt.EqAt A s u v c:=e▸h
structure Cm (A:Around) (s:Shared) (u v:Value) (b:Bool):Prop where
 rc:SeqAt.RcAt A s u v b
 ne:SeqAt.RcNeAt A s u v (!b)
 eq:SeqAt.EqAt A s u v b
mutual
theorem cmp_at (I:Inv X pins σ H s):∀(x y:D) (A:Around) (v w:V) (u1 u2:Value),A.units+x.dep<cLine->Rep X.K H x v->Rep X.K H y w->RelV v u1->RelV w u2->Cm A s u1 u2 (D.eq x y)
 |.non,y,A,v,w,u1,u2,hu,rx,ry,r1,r2=>by
  rw[rep_non] at rx;subst rx
  have r1:u1=Value.none:=r1
  subst r1
  have hu':A.units<cLine:=by lia
  cases y with
  |non=>rw[rep_non] at ry;subst ry;cases (show u2=Value.none from r2);rw[D.eq];exact⟨.none_none,.none_none,.same _⟩
  |bl b=>rw[rep_bl] at ry;subst ry;cases (show u2=Value.bool b from r2);rw[D.eq];exact⟨.none_bool b,.none_bool b,.none_bool b⟩;all_goals (intros;simp_all)
  |int b=>rw[rep_int] at ry;subst ry;obtain⟨t,q⟩:=(show ∃t,u2=Value.int b t from r2);subst q;rw[D.eq];exact⟨.none_int b t,.none_int b t,.none_int b t⟩;all_goals (intros;simp_all)
  |str b=>rw[rep_str] at ry;subst ry;obtain⟨t,q⟩:=(show ∃t,u2=Value.str b t from r2);subst q;rw[D.eq];exact⟨.none_str b t,.none_str b t,.none_str b t⟩;all_goals (intros;simp_all)
  |tup es =>
   obtain⟨p,xs,rfl,hp,hr⟩:=rep_tupQ ry
   cases (show u2=Value.ref p from r2)
   obtain⟨its,_,ht,_⟩:=I.tuple hp
   rw[D.eq]
   exact⟨.none_tuple ht hu',.none_tuple ht hu',.none_tuple ht hu'⟩
   all_goals (intros;simp_all)
  |lst es =>
   obtain⟨p,xs,rfl,hp,hr⟩:=rep_lst.mp ry
   cases (show u2=Value.ref p from r2)
   obtain⟨its,_,ht,_⟩:=I.list hp
   rw[D.eq]
   exact⟨.none_list ht.isList hu',.none_list ht.isList hu',.none_list ht.isList hu'⟩
   all_goals (intros;simp_all)
 |.bl a,y,A,v,w,u1,u2,hu,rx,ry,r1,r2=>by
  rw[rep_bl] at rx;subst rx
  have r1:u1=Value.bool a:=r1
  subst r1
  have hu':A.units<cLine:=by lia
  cases y with
  |non=>rw[rep_non] at ry;subst ry;cases (show u2=Value.none from r2);rw[D.eq];exact⟨.bool_none a,.bool_none a,.bool_none a⟩;all_goals (intros;simp_all)
  |bl b=>rw[rep_bl] at ry;subst ry;cases (show u2=Value.bool b from r2);rw[D.eq];exact⟨.bool_bool a b,.bool_bool a b,.bool_bool a b⟩
  |int b=>rw[rep_int] at ry;subst ry;obtain⟨t,q⟩:=(show ∃t,u2=Value.int b t from r2);subst q;rw[D.eq];exact⟨.bool_int a b t,.bool_int a b t,.bool_int a b t⟩
  |str b=>rw[rep_str] at ry;subst ry;obtain⟨t,q⟩:=(show ∃t,u2=Value.str b t from r2);subst q;rw[D.eq];exact⟨.bool_str a b t,.bool_str a b t,.bool_str a b t⟩;all_goals (intros;simp_all)
  |tup es =>
   obtain⟨p,xs,rfl,hp,hr⟩:=rep_tupQ ry
   cases (show u2=Value.ref p from r2)
   obtain⟨its,_,ht,_⟩:=I.tuple hp
   rw[D.eq]
   exact⟨.bool_tuple a ht hu',.bool_tuple a ht hu',.bool_tuple a ht hu'⟩
   all_goals (intros;simp_all)
  |lst es =>
   obtain⟨p,xs,rfl,hp,hr⟩:=rep_lst.mp ry
   cases (show u2=Value.ref p from r2)
   obtain⟨its,_,ht,_⟩:=I.list hp
   rw[D.eq]
   exact⟨.bool_list a ht.isList hu',.bool_list a ht.isList hu',.bool_list a ht.isList hu'⟩
   all_goals (intros;simp_all)
 |.int a,y,A,v,w,u1,u2,hu,rx,ry,r1,r2=>by
  rw[rep_int] at rx;subst rx
  obtain⟨t1,q1⟩:=(show ∃t,u1=Value.int a t from r1)
  subst q1
  have hu':A.units<cLine:=by lia
  cases y with
  |non=>rw[rep_non] at ry;subst ry;cases (show u2=Value.none from r2);rw[D.eq];exact⟨.int_none a t1,.int_none a t1,.int_none a t1⟩;all_goals (intros;simp_all)
  |bl b=>rw[rep_bl] at ry;subst ry;cases (show u2=Value.bool b from r2);rw[D.eq];exact⟨.int_bool a t1 b,.int_bool a t1 b,.int_bool a t1 b⟩
  |int b=>rw[rep_int] at ry;subst ry;obtain⟨t,q⟩:=(show ∃t,u2=Value.int b t from r2);subst q;rw[D.eq];exact⟨.int_int a t1 b t,.int_int a t1 b t,.int_int a t1 b t⟩
  |str b=>rw[rep_str] at ry;subst ry;obtain⟨t,q⟩:=(show ∃t,u2=Value.str b t from r2);subst q;rw[D.eq];exact⟨.int_str a t1 b t,.int_str a t1 b t,.int_str a t1 b t⟩;all_goals (intros;simp_all)
  |tup es =>
   obtain⟨p,xs,rfl,hp,hr⟩:=rep_tupQ ry
   cases (show u2=Value.ref p from r2)
   obtain⟨its,_,ht,_⟩:=I.tuple hp
   rw[D.eq]
   exact⟨.int_tuple a t1 ht hu',.int_tuple a t1 ht hu',.int_tuple a t1 ht hu'⟩
   all_goals (intros;simp_all)
  |lst es =>
   obtain⟨p,xs,rfl,hp,hr⟩:=rep_lst.mp ry
   cases (show u2=Value.ref p from r2)
   obtain⟨its,_,ht,_⟩:=I.list hp
   rw[D.eq]
   exact⟨.int_list a t1 ht.isList hu',.int_list a t1 ht.isList hu',.int_list a t1 ht.isList hu'⟩
   all_goals (intros;simp_all)
 |.str a,y,A,v,w,u1,u2,hu,rx,ry,r1,r2=>by
  rw[rep_str] at rx;subst rx
  obtain⟨t1,q1⟩:=(show ∃t,u1=Value.str a t from r1)
  subst q1
  have hu':A.units<cLine:=by lia
  cases y with
  |non=>rw[rep_non] at ry;subst ry;cases (show u2=Value.none from r2);rw[D.eq];exact⟨.str_none a t1,.str_none a t1,.str_none a t1⟩;all_goals (intros;simp_all)
  |bl b=>rw[rep_bl] at ry;subst ry;cases (show u2=Value.bool b from r2);rw[D.eq];exact⟨.str_bool a t1 b,.str_bool a t1 b,.str_bool a t1 b⟩;all_goals (intros;simp_all)
  |int b=>rw[rep_int] at ry;subst ry;obtain⟨t,q⟩:=(show ∃t,u2=Value.int b t from r2);subst q;rw[D.eq];exact⟨.str_int a t1 b t,.str_int a t1 b t,.str_int a t1 b t⟩;all_goals (intros;simp_all)
  |str b=>rw[rep_str] at ry;subst ry;obtain⟨t,q⟩:=(show ∃t,u2=Value.str b t from r2);subst q;rw[D.eq];exact⟨.str_str a t1 b t,.str_str a t1 b t,.str_str a t1 b t⟩
  |tup es =>
   obtain⟨p,xs,rfl,hp,hr⟩:=rep_tupQ ry
   cases (show u2=Value.ref p from r2)
   obtain⟨its,_,ht,_⟩:=I.tuple hp
   rw[D.eq]
   exact⟨.str_tuple a t1 ht hu',.str_tuple a t1 ht hu',.str_tuple a t1 ht hu'⟩
   all_goals (intros;simp_all)
  |lst es =>
   obtain⟨p,xs,rfl,hp,hr⟩:=rep_lst.mp ry
   cases (show u2=Value.ref p from r2)
   obtain⟨its,_,ht,_⟩:=I.list hp
   rw[D.eq]
   exact⟨.str_list a t1 ht.isList hu',.str_list a t1 ht.isList hu',.str_list a t1 ht.isList hu'⟩
   all_goals (intros;simp_all)
 |.tup ds,y,A,v,w,u1,u2,hu,rx,ry,r1,r2=>by
  rw[D.dep] at hu
  have hu':A.units<cLine:=by lia
  obtain⟨p1,xs1,rfl,hp1,hr1⟩:=rep_tupQ rx
  cases (show u1=Value.ref p1 from r1)
  obtain⟨its1,rv1,ht1,_⟩:=I.tuple hp1
  cases y with
  |non=>rw[rep_non] at ry;subst ry;cases (show u2=Value.none from r2);rw[D.eq];exact⟨.tuple_none ht1 hu',.tuple_none ht1 hu',.tuple_none ht1 hu'⟩;all_goals (intros;simp_all)
  |bl b=>rw[rep_bl] at ry;subst ry;cases (show u2=Value.bool b from r2);rw[D.eq];exact⟨.tuple_bool b ht1 hu',.tuple_bool b ht1 hu',.tuple_bool b ht1 hu'⟩;all_goals (intros;simp_all)
  |int b=>rw[rep_int] at ry;subst ry;obtain⟨t,q⟩:=(show ∃t,u2=Value.int b t from r2);subst q;rw[D.eq];exact⟨.tuple_int b t ht1 hu',.tuple_int b t ht1 hu',.tuple_int b t ht1 hu'⟩;all_goals (intros;simp_all)
  |str b=>rw[rep_str] at ry;subst ry;obtain⟨t,q⟩:=(show ∃t,u2=Value.str b t from r2);subst q;rw[D.eq];exact⟨.tuple_str b t ht1 hu',.tuple_str b t ht1 hu',.tuple_str b t ht1 hu'⟩;all_goals (intros;simp_all)
  |tup es =>
   obtain⟨p2,xs2,rfl,hp2,hr2⟩:=rep_tupQ ry
   cases (show u2=Value.ref p2 from r2)
   obtain⟨its2,rv2,ht2,_⟩:=I.tuple hp2
   have l1:its1.toArray.size=ds.length:=by rw[List.size_toArray,<-rv1.length,<-hr1.length]
   have l2:its2.toArray.size=es.length:=by rw[List.size_toArray,<-rv2.length,<-hr2.length]
   have items:=cmps_at I ds es A.in1 xs1 xs2 its1 its2 (by show A.units+1+_<_;lia) hr1 hr2 rv1 rv2
   have he:∀j (h1:j<its1.toArray.size) (h2:j<its2.toArray.size),SeqAt.EqAt A.in1 s its1.toArray[j] its2.toArray[j] (D.eq (ds.getD j .non) (es.getD j .non)):=fun j h1 h2=>by
    refine items j _ _ _ _ ?_ ?_ ?_ ?_
    ·rw[List.getD_eq_getElem?_getD,List.getElem?_eq_getElem (by lia)];simp
    ·rw[List.getD_eq_getElem?_getD,List.getElem?_eq_getElem (by lia)];simp
    ·simp
    ·simp
   have rc:=SeqAt.RcAt.tuples ht1 ht2 hu' he
   have ne:=SeqAt.RcNeAt.tuples ht1 ht2 hu' he
   rw[l1,l2,<-D.eqs_all] at rc ne
   rw[D.eq]
   refine⟨rc,ne,?_⟩
   by_cases hpp:p1=p2
   ·subst hpp
    have:=rep_inj I _ _ _ rx ry
    cases this
    rw[D.eqs_refl]
    exact .same _
   ·exact .of_refs hpp rc
  |lst es =>
   obtain⟨p2,xs2,rfl,hp2,hr2⟩:=rep_lst.mp ry
   cases (show u2=Value.ref p2 from r2)
   obtain⟨its2,rv2,ht2,_⟩:=I.list hp2
   rw[D.eq]
   exact⟨.tuple_list ht1 ht2.isList hu',.tuple_list ht1 ht2.isList hu',.tuple_list ht1 ht2.isList hu'⟩
   all_goals (intros;simp_all)
 |.lst ds,y,A,v,w,u1,u2,hu,rx,ry,r1,r2=>by
  rw[D.dep] at hu
  have hu':A.units<cLine:=by lia
  obtain⟨p1,xs1,rfl,hp1,hr1⟩:=rep_lst.mp rx
  cases (show u1=Value.ref p1 from r1)
  obtain⟨its1,rv1,pl1,_⟩:=I.list hp1
  have ht1:=pl1.isList
  cases y with
  |non=>rw[rep_non] at ry;subst ry;cases (show u2=Value.none from r2);rw[D.eq];exact⟨.list_none ht1 hu',.list_none ht1 hu',.list_none ht1 hu'⟩;all_goals (intros;simp_all)
  |bl b=>rw[rep_bl] at ry;subst ry;cases (show u2=Value.bool b from r2);rw[D.eq];exact⟨.list_bool b ht1 hu',.list_bool b ht1 hu',.list_bool b ht1 hu'⟩;all_goals (intros;simp_all)
  |int b=>rw[rep_int] at ry;subst ry;obtain⟨t,q⟩:=(show ∃t,u2=Value.int b t from r2);subst q;rw[D.eq];exact⟨.list_int b t ht1 hu',.list_int b t ht1 hu',.list_int b t ht1 hu'⟩;all_goals (intros;simp_all)
  |str b=>rw[rep_str] at ry;subst ry;obtain⟨t,q⟩:=(show ∃t,u2=Value.str b t from r2);subst q;rw[D.eq];exact⟨.list_str b t ht1 hu',.list_str b t ht1 hu',.list_str b t ht1 hu'⟩;all_goals (intros;simp_all)
  |tup es =>
   obtain⟨p2,xs2,rfl,hp2,hr2⟩:=rep_tupQ ry
   cases (show u2=Value.ref p2 from r2)
   obtain⟨its2,rv2,ht2,_⟩:=I.tuple hp2
   rw[D.eq]
   exact⟨.list_tuple ht1 ht2 hu',.list_tuple ht1 ht2 hu',.list_tuple ht1 ht2 hu'⟩
   all_goals (intros;simp_all)
  |lst es =>
   obtain⟨p2,xs2,rfl,hp2,hr2⟩:=rep_lst.mp ry
   cases (show u2=Value.ref p2 from r2)
   obtain⟨its2,rv2,pl2,_⟩:=I.list hp2
   have ht2:=pl2.isList
   have l1:its1.toArray.size=ds.length:=by rw[List.size_toArray,<-rv1.length,<-hr1.length]
   have l2:its2.toArray.size=es.length:=by rw[List.size_toArray,<-rv2.length,<-hr2.length]
   have items:=cmps_at I ds es A.in1 xs1 xs2 its1 its2 (by show A.units+1+_<_;lia) hr1 hr2 rv1 rv2
   have he:∀j (h1:j<its1.toArray.size) (h2:j<its2.toArray.size),SeqAt.EqAt A.in1 s its1.toArray[j] its2.toArray[j] (D.eq (ds.getD j .non) (es.getD j .non)):=fun j h1 h2=>by
    refine items j _ _ _ _ ?_ ?_ ?_ ?_
    ·rw[List.getD_eq_getElem?_getD,List.getElem?_eq_getElem (by lia)];simp
    ·rw[List.getD_eq_getElem?_getD,List.getElem?_eq_getElem (by lia)];simp
    ·simp
    ·simp
   have both:SeqAt.RcAt A s (.ref p1) (.ref p2) (D.eqs ds es)/\SeqAt.RcNeAt A s (.ref p1) (.ref p2) (!D.eqs ds es):=by
    by_cases hl:ds.length=es.length
    ·have rc:=SeqAt.RcAt.lists ht1 ht2 (by lia) hu' he
     have ne:=SeqAt.RcNeAt.lists ht1 ht2 (by lia) hu' he
     have e:D.eqs ds es=(List.range its1.toArray.size).all fun j=>D.eq (ds.getD j .non) (es.getD j .non):=by
      rw[D.eqs_all,l1,<-hl,Nat.min_self];simp
     rw[e]
     exact⟨rc,ne⟩
    ·have e:D.eqs ds es=false:=by rw[D.eqs_all];simp[hl]
     rw[e]
     have hs:(its1.toArray.size != its2.toArray.size)=true:=by rw[l1,l2];simpa using hl
     exact⟨.lists_lengths ht1 ht2 hs hu',.lists_lengths ht1 ht2 hs hu'⟩
   rw[D.eq]
   refine⟨both.1,both.2,?_⟩
   by_cases hpp:p1=p2
   ·subst hpp
    have:=rep_inj I _ _ _ rx ry
    cases this
    rw[D.eqs_refl]
    exact .same _
   ·exact .of_refs hpp both.1
theorem cmps_at (I:Inv X pins σ H s):∀(ds es:List D) (A:Around) (vs ws:List V) (us1 us2:List Value),A.units+D.deps ds<cLine->Reps X.K H ds vs->Reps X.K H es ws->Vals vs us1->Vals ws us2 ->
  ∀(j:Nat) (d e:D) (u1 u2:Value),ds[j]?=some d->es[j]?=some e->us1[j]?=some u1->us2[j]?=some u2->SeqAt.EqAt A s u1 u2 (D.eq d e)
 |[],_,_,_,_,_,_,_,_,_,_,_,j,_,_,_,_,h,_,_,_=>by simp at h
 |_::_,[],_,_,_,_,_,_,_,_,_,_,j,_,_,_,_,_,h,_,_=>by simp at h
 |d0::ds,e0::es,A,vs,ws,us1,us2,hu,r1,r2,v1,v2,j,d,e,u1,u2,h1,h2,h3,h4=>by
  rw[D.deps] at hu
  obtain⟨x,xr,rfl,a1,a2⟩:=reps_cons.mp r1
  obtain⟨y,yr,rfl,b1,b2⟩:=reps_cons.mp r2
  cases v1 with
  |cons c1 c2 =>
   cases v2 with
   |cons d1 d2 =>
    cases j with
    |zero =>
     simp at h1 h2 h3 h4
     subst h1 h2 h3 h4
     exact(cmp_at I d0 e0 A x y _ _ (by lia) a1 b1 c1 d1).eq
    |succ j =>
     simp at h1 h2 h3 h4
     exact cmps_at I ds es A xr yr _ _ (by lia) a2 b2 c2 d2 j d e u1 u2 h1 h2 h3 h4
end
end
section
variable {X:Cx} {E:XK} {pos:Pos} {a b:Expr}
def gEq (x y:D):M D:=if x.dep<=60 then .ok (.bl (D.eq x y)) else .bad
def gNe (x y:D):M D:=if x.dep<=60 then .ok (.bl (!D.eq x y)) else .bad
theorem od_eq (hu:X.A.units+64<cLine):OpD X E (compareOp .Eq) gEq:=by
 refine⟨fun x y H Q=>∃dx dy,Rep X.K H dx x/\Rep X.K H dy y/\dx.dep<=60/\Q (.bl (D.eq dx dy)) H,fun pins s σ H x y v u Q I rx ry h=>?_,fun Hf H x y dx dy Q e rx ry q=>?_⟩
 ·obtain⟨dx,dy,h1,h2,h3,q⟩:=h
  exact(cmp_at I dx dy X.A x y v u (by lia) h1 h2 rx ry).rc _ _ _ _ ⟨.bl _,H,I,rfl,q⟩
 ·unfold gEq at q
  split at q
  ·rename_i hd
   exact⟨dx,dy,rx.mono e,ry.mono e,hd,Po.ret e q (rep_bl.mpr rfl)⟩
  ·exact q.elim
theorem od_ne (hu:X.A.units+64<cLine):OpD X E (compareOp .NotEq) gNe:=by
 refine⟨fun x y H Q=>∃dx dy,Rep X.K H dx x/\Rep X.K H dy y/\dx.dep<=60/\Q (.bl (!D.eq dx dy)) H,fun pins s σ H x y v u Q I rx ry h=>?_,fun Hf H x y dx dy Q e rx ry q=>?_⟩
 ·obtain⟨dx,dy,h1,h2,h3,q⟩:=h
  exact(cmp_at I dx dy X.A x y v u (by lia) h1 h2 rx ry).ne _ _ _ _ ⟨.bl _,H,I,rfl,q⟩
 ·unfold gNe at q
  split at q
  ·rename_i hd
   exact⟨dx,dy,rx.mono e,ry.mono e,hd,Po.ret e q (rep_bl.mpr rfl)⟩
  ·exact q.elim
end
end DL
set_option maxHeartbeats 4000000
namespace DL
open PySem PySem.Spec PyProof.Rows L2
section
variable {X:Cx} {E:XK} {pos:Pos} {a b:Expr}
theorem op_catS:OpR X (binaryOp .Add) (fun x y H Q=>∃l b xs zs,x=.ref l/\y=.ref b/\SqL X.K H l xs/\SqL X.K H b zs/\xs.length+zs.length<=sizeLine/\∀p,H p=none->Q (.ref p) (upd H p (.lst (xs++zs)))):=by
 intro pins s σ H x y v u Q I rx ry h
 obtain⟨l,b,xs,zs,rfl,rfl,hH,hB,hz,q⟩:=h
 cases rx
 cases ry
 obtain⟨its,r,pl,z⟩:=I.list hH
 obtain⟨its2,r2,pl2,z2⟩:=I.list hB
 have l1:=r.length
 have l2:=r2.length
 obtain⟨⟨cls,dd,data,sl⟩,ho,hc,n,hd⟩:=pl.isList
 obtain⟨⟨cls2,dd2,data2,sl2⟩,ho2,hc2,n2,hd2⟩:=pl2.isList
 simp only at hc hd hc2 hd2
 subst hc hd hc2 hd2
 have e:its.toArray++its2.toArray=(its++its2).toArray:=by simp
 refine concat_meets ⟨_,ho,rfl⟩ ⟨_,ho2,rfl⟩ noFill_list_add seq_list_add PySem.F.slot_list_add PySem.F.entry_list_add (PySem.F.args_list_add_2 _ _) (list_addW l b its.toArray its2.toArray n n2 dd dd2 sl sl2 (by rw[List.size_toArray,List.size_toArray];lia)) ⟨ho,ho2,?_⟩
 rw[e]
 exact⟨.ref _,_,I.lnew (t':=s.toks) (r.append r2) (by rw[List.length_append];lia),rfl,q _ I.fresh⟩
def gPlus:D->D->M D
 |.int i,.int j=>.ok (.int (i+j))
 |.lst xs,.lst ys=>if few (xs++ys) then .ok (.lst (xs++ys)) else .bad
 |.tup (x::xs),.tup ys=>if few (x::xs++ys) then .ok (.tup (x::xs++ys)) else .bad
 |.str i,.str j=>if i.length+j.length<=sizeLine then .ok (.str (i++j)) else .bad
 |_,_=>.bad
theorem od_plus:OpD X E (binaryOp .Add) gPlus:=by
 refine⟨_,op_add.or (op_catS.or (op_catT.or op_add_str)),fun Hf H x y dx dy Q e rx ry q=>?_⟩
 unfold gPlus at q
 split at q
 ·rename_i i j
  exact .inl ⟨i,j,rep_int.mp rx,rep_int.mp ry,Po.ret e q (rep_int.mpr rfl)⟩
 ·rename_i xs ys
  split at q
  ·rename_i hf
   obtain⟨p1,us,rfl,h1,r1⟩:=rep_lst.mp rx
   obtain⟨p2,ws,rfl,h2,r2⟩:=rep_lst.mp ry
   have hl:=few_line hf (r1.append r2)
   rw[List.length_append] at hl
   exact .inr (.inl ⟨p1,p2,us,ws,rfl,rfl,e.seq h1,e.seq h2,hl,fun p hp=>q _ _ _ (Gr.alloc e hp _) (Gr.lst e hp (r1.append r2))⟩)
  ·exact q.elim
 ·rename_i x0 xs ys
  split at q
  ·rename_i hf
   obtain⟨p1,us,rfl,h1,r1⟩:=rep_tupQ rx
   obtain⟨p2,ws,rfl,h2,r2⟩:=rep_tupQ ry
   have hl:=few_line hf (r1.append r2)
   rw[List.length_append] at hl
   have hne:us≠[]:=fun z=>by
    have:=r1.length
    rw[z] at this
    cases this
   refine .inr (.inr (.inl ⟨p1,p2,us,ws,rfl,rfl,Same.seqT e h1,Same.seqT e h2,hne,hl,fun z=>?_,fun _ p hp=>q _ _ _ (Gr.alloc e hp _) (Gr.tup e hp (r1.append r2))⟩))
   subst z
   have:ys=[]:=List.length_eq_zero_iff.mp r2.length
   subst this
   rw[List.append_nil] at q
   exact Po.ret e q rx
  ·exact q.elim
 ·rename_i i j
  split at q
  ·rename_i hl
   exact .inr (.inr (.inr ⟨i,j,rep_str.mp rx,rep_str.mp ry,hl,Po.ret e q (rep_str.mpr rfl)⟩))
  ·exact q.elim
 ·exact q.elim
def gTimes:D->D->M D:=gMul
theorem od_times:OpD X E (binaryOp .Mult) gTimes:=od_mul
def cutD (ds:List D)(lo hi:Option Int):List D:=(ds.drop (HT.sIx ds.length 0 lo)).take (HT.sIx ds.length ds.length hi - HT.sIx ds.length 0 lo)
theorem cut_reps {K:PySem.W.Frag}{H:Hp}{ds:List D}{xs:List V}(r:Reps K H ds xs)(lo hi:Option Int):Reps K H (cutD ds lo hi) (cutV xs lo hi):=by
 unfold cutD cutV
 rw[<-r.length]
 exact(r.drop _).take _
def gSl:D->Option Int->Option Int->M D
 |.lst ds,lo,hi=>.ok (.lst (cutD ds lo hi))
 |.tup ds,lo,hi=>if HT.sIx ds.length 0 lo=0/\HT.sIx ds.length ds.length hi=ds.length then .bad else .ok (.tup (cutD ds lo hi))
 |_,_,_=>.bad
def oNone (_:DSt):M (Option Int):=.ok none
def oSome (f:DSt->M D)(sd:DSt):M (Option Int):=(f sd).bind fun d=>match d with
 |.int i=>.ok (some i)
 |_=>.bad
theorem pod_none:POd X E none oNone:=⟨_,po_none,fun _ _ _ _ _ _ _ sr h=>Po.ret (R:=rQ) sr.sub h rfl⟩
theorem pod_some {e:Expr}{f:DSt->M D}(h:PEd X E e f):POd X E (some e) (oSome f):=by
 obtain⟨t,p,q⟩:=h
 refine⟨_,po_some p,fun H0 B Hf sd σ H Q sr h=>?_⟩
 refine q H0 B Hf sd σ H _ sr (Po.bind h fun d v Hf1 H1 _ g1 rv h1=>?_)
 split at h1
 ·exact⟨_,rep_int.mp rv,Po.ret (R:=rQ) g1.sub h1 rfl⟩
 ·exact h1.elim
def eSl (f:DSt->M D)(lo hi:DSt->M (Option Int))(sd:DSt):M D:=(f sd).bind fun d=>(lo sd).bind fun l=>(hi sd).bind fun h=>gSl d l h
theorem pd_slice {e:Expr}{lo hi:Option Expr}{p2:Pos}{f:DSt->M D}{fl fh:DSt->M (Option Int)}(h:PEd X E e f)(hl:POd X E lo fl)(hh:POd X E hi fh):PEd X E (.Subscript e (.Slice lo hi none p2) pos) (eSl f fl fh):=by
 obtain⟨t,p,q⟩:=h
 obtain⟨tl,pl,ql⟩:=hl
 obtain⟨th,ph,qh⟩:=hh
 refine⟨_,pe_slice (sl_list.or sl_tup) p pl ph,fun H0 B Hf sd σ H Q sr h=>?_⟩
 refine q H0 B Hf sd σ H _ sr (Po.bind h fun d v Hf1 H1 _ g1 rv h1=>?_)
 refine ql H0 B Hf1 sd σ H1 _ (sr.gr g1) (Po.bind h1 fun l l' Hf2 H2 _ g2 el h2=>?_)
 have el:l=l':=el
 subst el
 refine qh H0 B Hf2 sd σ H2 _ ((sr.gr g1).gr g2) (Po.bind h2 fun u u' Hf3 H3 _ g3 eu h3=>?_)
 have eu:u=u':=eu
 subst eu
 have rv3:=(Rep.mono g3.fz (Rep.mono g2.fz rv))
 unfold gSl at h3
 split at h3
 ·rename_i ds
  obtain⟨a,xs,rfl,ha,hr⟩:=rep_lst.mp rv3
  exact .inl ⟨a,xs,rfl,g3.sub.seq ha,fun p hp=>h3 _ _ _ (Gr.alloc g3.sub hp _) (Gr.lst g3.sub hp (cut_reps hr _ _))⟩
 ·rename_i ds
  split at h3
  ·exact h3.elim
  ·rename_i hw
   obtain⟨a,xs,rfl,ha,hr⟩:=rep_tupQ rv3
   exact .inr ⟨a,xs,rfl,Same.seqT g3.sub ha,by rw[<-hr.length];exact hw,fun p hp=>h3 _ _ _ (Gr.alloc g3.sub hp _) (Gr.tup g3.sub hp (cut_reps hr _ _))⟩
 ·exact h3.elim
def ItOk (K:PySem.W.Frag)(Hf _H:Hp)(ds:List D)(J:It):Prop:=∀(i:Nat) (Hf1 H1:Hp),Same Hf Hf1->Same Hf1 H1->match ds[i]? with
 |some d=>J.go i H1/\∀x H2,J.yld i H1 x H2->∃Hf2,Gr Hf1 H1 Hf2 H2/\Rep K Hf2 d x
 |none=>J.stop i H1
def PId (X:Cx)(E:XK)(tg iter:Expr)(fi:DSt->M (List D)):Prop :=
 ∃wi:TI,PI X tg iter wi/\∀(H0:Hp) (B:Addr->Prop) (Hf:Hp) (sd:DSt) (σ:L2.St) (H:Hp) (R:It->Hp->Prop),SR X.K H0 B Hf sd σ H->Po X.K E (ItOk X.K) Hf H (fi sd) R->wi σ H R
theorem itl_ok {K:PySem.W.Frag}{Hf H:Hp}{a:Addr}{xs:List V}{ds:List D}(h:SqL K Hf a xs)(r:Reps K Hf ds xs):ItOk K Hf H ds (Itl K a):=by
 intro i Hf1 H1 e1 e2
 have h2:=e2.seq (e1.seq h)
 cases q:ds[i]? with
 |some d =>
  obtain⟨x,ex,rx⟩:=r.get q
  refine⟨⟨xs,x,h2,ex⟩,fun y H2 hy=>?_⟩
  obtain⟨e,hy⟩:=hy
  subst e
  have ey:=hy xs h2
  rw[ex] at ey
  cases ey
  exact⟨Hf1,Gr.refl e2,rx.mono e1⟩
 |none =>
  refine⟨xs,h2,?_⟩
  have:=r.none_of q
  exact List.getElem?_eq_none_iff.mp this
theorem itt_ok {K:PySem.W.Frag}{Hf H:Hp}{a:Addr}{xs:List V}{ds:List D}(h:SqT K Hf a xs)(r:Reps K Hf ds xs):ItOk K Hf H ds (Itt K a):=by
 intro i Hf1 H1 e1 e2
 have h2:=Same.seqT e2 (Same.seqT e1 h)
 cases q:ds[i]? with
 |some d =>
  obtain⟨x,ex,rx⟩:=r.get q
  refine⟨⟨xs,x,h2,ex⟩,fun y H2 hy=>?_⟩
  obtain⟨e,hy⟩:=hy
  subst e
  have ey:=hy xs h2
  rw[ex] at ey
  cases ey
  exact⟨Hf1,Gr.refl e2,rx.mono e1⟩
 |none =>
  refine⟨xs,h2,?_⟩
  have:=r.none_of q
  exact List.getElem?_eq_none_iff.mp this
def rangeD (lo:Int)(n:Nat):List D:=(List.range n).map fun k=>.int (lo+(k:Nat))
theorem itr_ok {K:PySem.W.Frag}{Hf H:Hp}(lo:Int)(n:Nat):ItOk K Hf H (rangeD lo n) (Itr lo n):=by
 intro i Hf1 H1 e1 e2
 unfold rangeD
 rw[List.getElem?_map]
 by_cases hi:i<n
 ·rw[List.getElem?_range hi]
  refine⟨hi,fun y H2 hy=>?_⟩
  obtain⟨e,hy⟩:=hy
  subst e
  exact⟨Hf1,Gr.refl e2,rep_int.mpr hy⟩
 ·rw[List.getElem?_eq_none (by simpa using hi)]
  exact Nat.le_of_not_lt hi
def iSeq (f:DSt->M D)(sd:DSt):M (List D):=(f sd).bind fun d=>match d with
 |.lst ds=>.ok ds
 |.tup ds=>.ok ds
 |_=>.bad
theorem pi_seq {tg l:Expr}{tl:TE}(hl:PE X l tl):PI X tg l (fun σ H R=>tl σ H fun x H1=>(∃a,x=.ref a/\(∃xs,SqL X.K H1 a xs)/\R (Itl X.K a) H1)\/∃a,x=.ref a/\(∃xs,SqT X.K H1 a xs)/\R (Itt X.K a) H1):=by
 intro pins s σ H R I h
 refine thn (hl pins s σ H _ I h) fun v s1 ⟨x,H1,I1,r1,q1⟩=>?_
 rcases q1 with⟨a,e,⟨xs,hq⟩,q⟩|⟨a,e,⟨xs,hq⟩,q⟩
 ·subst e
  cases r1
  obtain⟨its,rv,p,hz⟩:=I1.list hq
  refine wpAny_pyIter_list p.isList ?_
  refine⟨s1.heap.objs.size,[s1.heap.objs.size],_,_,H1,rfl,I1.kept (t':=s1.toks) fun b o e=>Heap.get?_push_of_some _ e,turn_list a _,⟨_,Heap.get?_push_size _ rfl,rfl,rfl⟩,fun b hb=>?_,q⟩
  have e:b=s1.heap.objs.size:=by simpa using hb
  subst e
  exact I1.fpOk (Nat.le_refl _) (I1.hok.fresh (Nat.le_refl _))
 ·subst e
  cases r1
  obtain⟨its,rv,p,hz⟩:=I1.tuple hq
  refine wpAny_pyIter_tuple (show s1.heap.IsTuple a its.toArray from p) ?_
  refine⟨s1.heap.objs.size,[s1.heap.objs.size],_,_,H1,rfl,I1.kept (t':=s1.toks) fun b o e=>Heap.get?_push_of_some _ e,turn_tuple a _,⟨_,Heap.get?_push_size _ rfl,rfl,rfl⟩,fun b hb=>?_,q⟩
  have e:b=s1.heap.objs.size:=by simpa using hb
  subst e
  exact I1.fpOk (Nat.le_refl _) (I1.hok.fresh (Nat.le_refl _))
theorem pid_seq {tg l:Expr}{f:DSt->M D}(h:PEd X E l f):PId X E tg l (iSeq f):=by
 obtain⟨t,p,q⟩:=h
 refine⟨_,pi_seq p,fun H0 B Hf sd σ H R sr h=>?_⟩
 refine q H0 B Hf sd σ H _ sr (Po.bind h fun d v Hf1 H1 _ g1 rv h1=>?_)
 split at h1
 ·rename_i ds
  obtain⟨a,xs,rfl,ha,hr⟩:=rep_lst.mp rv
  exact .inl ⟨a,rfl,⟨xs,g1.sub.seq ha⟩,Po.ret (R:=ItOk X.K) g1.sub h1 (itl_ok ha hr)⟩
 ·rename_i ds
  obtain⟨a,xs,rfl,ha,hr⟩:=rep_tupQ rv
  exact .inr ⟨a,rfl,⟨xs,Same.seqT g1.sub ha⟩,Po.ret (R:=ItOk X.K) g1.sub h1 (itt_ok ha hr)⟩
 ·exact h1.elim
def iRange1 (fs:DSt->M (List D))(sd:DSt):M (List D):=(fs sd).bind fun ds=>match ds with
 |[.int j]=>if -1000000<=j/\j<=1000000 then .ok (rangeD 0 j.toNat) else .bad
 |_=>.bad
theorem pid_range1 {tg a:Expr}{p:Pos}{fs:DSt->M (List D)} (hg:Gl X "range") (hm:X.mg "range" = none) (h:PAd X E [a] fs) (hs:starEach [a] X.env=[(false,eval a X.env)]:=by rfl):PId X E tg (.Call (.Name "range" p) [a] [] pos) (iRange1 fs):=by
 obtain⟨t,pt,q⟩:=h
 refine⟨_,pi_range1 hg hm pt hs,fun H0 B Hf sd σ H R sr h=>?_⟩
 refine q H0 B Hf sd σ H _ sr (Po.bind h fun ds vs Hf1 H1 _ g1 rs h1=>?_)
 split at h1
 ·split at h1
  ·rename_i hj
   obtain⟨v,rfl,rv⟩:=reps1 rs
   rw[rep_int.mp rv]
   exact⟨_,rfl,by lia,by lia,Po.ret (R:=ItOk X.K) g1.sub h1 (itr_ok 0 _)⟩
  ·exact h1.elim
 ·exact h1.elim
def loopD (g:D->DSt->M DSt)(f:DSt->M O):List D->DSt->M O
 |[],sd=>.ok (.nx sd)
 |d::r,sd=>match g d sd with
  |.ok sd1=>(f sd1).bind fun o=>match o with
   |.nx sd2=>loopD g f r sd2
   |.ct sd2=>loopD g f r sd2
   |.bk sd2=>.ok (.nx sd2)
   |.rt s=>.ok (.rt s)
  |_=>.bad
def sFor (fi:DSt->M (List D))(g:D->DSt->M DSt)(f:DSt->M O)(sd:DSt):M O:=(fi sd).bind fun ds=>loopD g f ds sd
theorem psd_for {tg iter:Expr}{body:List Stmt}{fi:DSt->M (List D)}{g:D->DSt->M DSt}{f:DSt->M O}(hp:PassesOwn (model X.prog X.w) X.A X.env X.xe)(hc:X.calm=true)(hi:PId X E tg iter fi)(hg:PGd X tg g)(hb:PSsd X E body f)(hs:∀x,foldedSetIterable iter X.env x=pure x:=by intro _;rfl):PSd X E (.For tg iter body [] pos) (sFor fi g f):=by
 obtain⟨wi,pw,qw⟩:=hi
 obtain⟨tg',pg,qg⟩:=hg
 obtain⟨tb,pb,qb⟩:=hb
 refine⟨_,ps_for hp hc pw pg pb hs,fun H0 B Hf sd σ H D sr h=>?_⟩
 refine qw H0 B Hf sd σ H _ sr (PoS.bind sr h fun ds J Hf1 H1 _ g1 sr1 J1 h1=>?_)
 refine⟨fun i m σ' H'=>m=ds.length - i/\∃Hf' sd',Same Hf1 Hf'/\SR X.K H0 B Hf' sd' σ' H'/\PoS X.K E H0 B Hf' (loopD g f (ds.drop i) sd') D,⟨ds.length,by simp,Hf1,sd,Same.refl _,sr1,by simpa using h1⟩,?_⟩
 rintro i m σ2 H2 ⟨rfl,Hf2,sd2,e2,sr2,h2⟩
 have jj:=J1 i Hf2 H2 e2 sr2.sub
 cases q:ds[i]? with
 |none =>
  rw[q] at jj
  refine .inl ⟨jj,?_⟩
  rw[List.drop_eq_nil_of_le (List.getElem?_eq_none_iff.mp q)] at h2
  exact h2 σ2 Hf2 H2 (Same.refl _) sr2
 |some d =>
  rw[q] at jj
  obtain⟨go,yl⟩:=jj
  have hlt:i<ds.length:=(List.getElem?_eq_some_iff.mp q).1
  have hd:ds.drop i=d::ds.drop (i+1):=by
   rw[List.drop_eq_getElem_cons hlt]
   congr 1
   exact(List.getElem?_eq_some_iff.mp q).2
  rw[hd] at h2
  refine .inr ⟨go,fun σ' H'=>∃Hf' sd',Same Hf1 Hf'/\SR X.K H0 B Hf' sd' σ' H'/\PoS X.K E H0 B Hf' (loopD g f (ds.drop (i+1)) sd') D,fun σ' H' w=>⟨ds.length - (i+1),by lia,rfl,w⟩,fun x H3 y3=>?_⟩
  obtain⟨Hf3,g3,rx⟩:=yl x H3 y3
  have sr3:=sr2.gr g3
  unfold loopD at h2
  split at h2
  ·rename_i sd3 eg
   refine qg H0 B Hf3 sd2 σ2 H3 x d sd3 _ sr3 rx eg fun σ4 sr4=>?_
   refine qb H0 B Hf3 sd3 σ4 H3 _ sr4 ?_
   have h2:=PoS.weak g3.fz h2
   cases ef:f sd3 with
   |ok o =>
    rw[ef] at h2
    cases o with
    |nx sd'=>exact fun σ' Hf' H' e' sr'=>⟨Hf',sd',e2.trans (g3.fz.trans e'),sr',PoS.weak e' h2⟩
    |ct sd'=>exact fun σ' Hf' H' e' sr'=>⟨Hf',sd',e2.trans (g3.fz.trans e'),sr',PoS.weak e' h2⟩
    |bk sd'=>exact h2
    |rt s=>exact h2
   |ex x=>rw[ef] at h2;exact h2
   |bad=>rw[ef] at h2;exact h2
  ·exact h2.elim
end
end DL
set_option maxHeartbeats 4000000
namespace DL
open PySem PySem.Spec PyProof.Rows L2
theorem codeAny_comp_any {prog:Program}{w:World}{A:Around}{R:Result->Shared->Prop}{s:Shared}{elt target iter:Expr}{scope:Scope}{pos:Pos}{it acc:Value}{env:Env}(I:Nat->Shared->Prop)
  (turn:∀n s,I n s->wpAny (model prog w) A (pyNext it) (fun r s₁=>match r with
   |none=>R (.ok .next) s₁
   |some v=>wpAny (model prog w) A (letOwnedTupleGo target it v) (fun _ s₂=>wpAny (model prog w) A (assign target env v) (fun _ s₃=>wpAny (model prog w) A (eval elt env) (fun x s₄ =>
     wpAny (model prog w) A (call (.builtin "list.append") [acc,x]) (fun _ s₅=>∃m,m<n/\I m s₅) (fun _ _=>False) s₄) (fun _ _=>False) s₃) (fun _ _=>False) s₂) (fun _ _=>False) s₁) (fun _ _=>False) s)
  (n:Nat) (h:I n s) :
  codeAny (model prog w) A (.compLoop (.ListComp elt [⟨target,iter,[],0⟩] scope pos) 0 it acc env) R s:=by
 refine codeAny_loop rfl I (fun n s hI=>?_) n h
 show wpAny _ A ((compTurn (.ListComp elt [⟨target,iter,[],0⟩] scope pos) 0 it acc env).onRaise (fun x=>do noteFrame x env;theTreesLotGoes x)) _ _ s
 refine wpAny_noted ?_
 rw[compTurn_list]
 refine wpAny_bind (wpAny_standAt (wpAny_bind (wpAny_mono (turn n s hI) (fun r s₁ h₁=>?_) fun _ _ h'=>h'.elim)))
 cases r with
 |none=>exact wpAny_pure h₁
 |some v =>
  refine wpAny_bind (wpAny_mono h₁ (fun _ s₂ h₂=>?_) fun _ _ h'=>h'.elim)
  refine wpAny_bind (wpAny_mono h₂ (fun _ s₃ h₃=>?_) fun _ _ h'=>h'.elim)
  refine wpAny_bind (wpAny_tests_nil ?_)
  exact wpAny_bind (wpAny_bind (wpAny_mono h₃ (fun x s₄ h₄=>wpAny_bind (wpAny_mono h₄ (fun _ s₅ h₅=>wpAny_pure (wpAny_pure ⟨rfl,h₅⟩)) fun _ _ h'=>h'.elim)) fun _ _ h'=>h'.elim))
def compCx (X:Cx)(Nc:List Str)(scope:Scope)(cl:List (Str×Addr))(s3:Shared)(H3:Hp)(C:Addr)(ex:List Addr):Cx :=
 { X with N:=Nc,s₀:=s3,H₀:=H3,env:=compEnvC scope cl C X.env,outer:=X.stack,stack:=X.stack,ex:=ex,fn:=fun _=>false,pn:=[],xe:=fun _ _=>False }
structure CapOk (X:Cx) (Nc:List Str) (n0:Nat) (caps:List Nat) (scope:Scope) (cl:List (Str×Addr)):Prop where
 sub:∀y c,cl.lookup y=some c->X.env.cells.lookup y=some c
 has:∀y,(relabel scope X.env).names.lookup y=some .cell\/(relabel scope X.env).names.lookup y=some .free->∃c,cl.lookup y=some c
 cap:∀(i j:Nat) (x:Str),Nc[n0+i]?=some x->caps[i]?=some j->X.N[j]?=some x/\X.env.scope.names.lookup x=some .cell/\(relabel scope X.env).names.lookup x=some .cell
 len:Nc.length=n0+caps.length
def lstObj:Obj:={ cls:=.type "list", dict:=none,data:=.seq ([]:List Value).toArray }
section
variable {X:Cx} {pins:List (Addr×Obj)} {σ:L2.St} {H2:Hp} {s2:Shared} {Nc:List Str} {n0:Nat} {caps:List Nat} {scope:Scope} {cl:List (Str×Addr)} {fp:List Addr}
theorem comp_inv (I2:Inv X pins σ H2 s2)(f2:∀b∈fp,FpOk X pins H2 b)(hold:∀b∈fp,∃o,s2.heap.get? b=some o)(hkind:scope.kind=.function)(cap:CapOk X Nc n0 caps scope cl){h1:Heap}{m0:Str->Option Value}{tk:Nat}(hns:h1.Ns (s2.heap.objs.size+1) m0)(hold1:∀b o,s2.heap.get? b=some o->h1.get? b=some o)(hD:h1.get? s2.heap.objs.size=some lstObj) :
  Inv (compCx X Nc scope cl { s2 with heap:=s2.heap.push lstObj } (upd H2 s2.heap.objs.size (.lst [])) (s2.heap.objs.size+1) fp) [] (List.replicate n0 none++caps.map fun j=>(σ[j]?).join) (upd H2 s2.heap.objs.size (.lst [])) { s2 with heap:=h1,toks:=tk }:=by
 have fresh:H2 s2.heap.objs.size=none:=I2.hok.fresh (Nat.le_refl _)
 have freshC:H2 (s2.heap.objs.size+1)=none:=I2.hok.fresh (Nat.le_succ _)
 have sz:(s2.heap.push lstObj).objs.size=s2.heap.objs.size+1:=Heap.size_push _ _
 have lt:∀{b:Addr} {o:Obj},s2.heap.get? b=some o->b<s2.heap.objs.size:=fun e=>Heap.lt_size e
 have ne0:∀{b:Addr} {o:Obj},s2.heap.get? b=some o->b≠s2.heap.objs.size:=fun e=>Nat.ne_of_lt (lt e)
 have clt:∀y c,cl.lookup y=some c->c<s2.heap.objs.size:=fun y c e=>by
  obtain⟨v,q⟩:=I2.cell y c (cap.sub y c e)
  exact q.lt
 have frl:∀b∈frs X.stack,b<s2.heap.objs.size:=fun b hb=>by
  obtain⟨_,o,ho,_⟩:=I2.stack.mem hb
  exact lt ho
 have kp:∀b o,(s2.heap.push lstObj).get? b=some o->h1.get? b=some o:=fun b o e=>by
  by_cases hb:b=s2.heap.objs.size
  ·subst hb
   rw[Heap.get?_push_size _ rfl] at e
   cases e
   exact hD
  ·rw[Heap.get?_push_ne _ _ _ hb] at e
   exact hold1 b o e
 have hok3:HOk X.prog X.w (upd H2 s2.heap.objs.size (.lst [])) h1:=I2.hok.laid hold1 (Nat.le_refl _) ⟨Nat.zero_le _,[],0,.nil,hD⟩
 refine⟨⟨I2.ok.mod,?_,I2.ok.glob,I2.ok.blt,?_,?_,?_,?_,I2.ok.hd,I2.ok.frames,.inl rfl,?_,?_,?_,?_,?_,?_,?_⟩,rfl,I2.bare,?_,⟨m0,hns,?_⟩,?_,?_,?_,?_,hok3,?_⟩
 ·show(relabel scope X.env).kind=.function
  exact hkind
 ·show(s2.heap.push lstObj).objs.size<=s2.heap.objs.size+1
  rw[sz];exact Nat.le_refl _
 ·intro x y c h1 h2
  exact I2.ok.inj x y c (cap.sub x c h1) (cap.sub y c h2)
 ·intro x h
  exact cap.has x h
 ·intro x c h
  cases h
 ·intro b hb
  refine⟨?_,fun x c e=>?_⟩
  ·obtain⟨o,e⟩:=hold b hb
   exact Nat.ne_of_lt (Nat.lt_succ_of_lt (lt e))
  ·exact(f2 b hb).2.2.2.2.1 x c (cap.sub x c e)
 ·intro b o e
  obtain⟨q1,q2⟩:=I2.bs b o e
  exact⟨Heap.get?_push_of_some _ q1,(upd_ne (ne0 q1)).trans q2⟩
 ·show X.base.objs.size<=(s2.heap.push lstObj).objs.size
  rw[sz]
  exact Nat.le_succ_of_le (Nat.le_trans I2.ok.bsz I2.sz)
 ·intro b o e hb
  obtain⟨_,_,_,f4,_,_⟩:=f2 b hb
  rcases f4 with z|z
  ·exact I2.ok.noex b o e z
  ·exact absurd (Nat.lt_of_lt_of_le (Nat.lt_of_lt_of_le (Heap.lt_size e) I2.ok.bsz) z) (Nat.lt_irrefl _)
 ·intro b hb hz
  rcases List.mem_cons.mp (I2.stkSub b hz) with e|hz
  ·exact(f2 b hb).2.1 e
  ·exact(f2 b hb).2.2.1 hz
 ·exact I2.stack.of_keeps fun b o e _=>⟨o,Heap.get?_push_of_some _ e,rfl⟩
 ·intro b hb
  show upd H2 s2.heap.objs.size (.lst []) b=none
  rw[upd_ne (Nat.ne_of_lt (frl b hb))]
  exact I2.stkFree b hb
 ·exact Un.kept kp
 ·intro i x v e1 e2 e3
  have hi:n0<=i:=by
   refine Nat.le_of_not_lt fun hlt=>?_
   rw[List.getElem?_append_left (by simpa using hlt),List.getElem?_replicate] at e2
   split at e2<;>cases e2
  obtain⟨k,rfl⟩:=Nat.exists_eq_add_of_le hi
  rw[List.getElem?_append_right (by simp),List.length_replicate,Nat.add_sub_cancel_left,List.getElem?_map] at e2
  cases ej:caps[k]? with
  |none=>rw[ej] at e2;cases e2
  |some j =>
   rw[ej] at e2
   have e2:(σ[j]?).join=some v:=by simpa using e2
   have es:σ[j]?=some (some v):=by
    cases z:σ[j]? with
    |none=>rw[z] at e2;cases e2
    |some q=>rw[z] at e2;have:q=some v:=e2;rw[this]
   obtain⟨a1,a2,a3⟩:=cap.cap k j x e1 ej
   obtain⟨m,hn,hl⟩:=I2.loc
   obtain⟨u,ru,lk⟩:=hl j x v a1 es (.inr (.inl a2))
   refine⟨u,ru,?_⟩
   rcases lk with⟨z,_⟩|⟨_,c,ec,cell⟩
   ·have z:X.env.scope.names.lookup x=some .local:=z
    rw[a2] at z;cases z
   ·obtain⟨c',ec'⟩:=cap.has x (.inl a3)
    have:=cap.sub x c' ec'
    rw[ec] at this
    cases this
    obtain⟨o,ho,hd⟩:=cell
    exact .inr ⟨.inl a3,c,ec',o,hold1 _ _ ho,hd⟩
 ·intro x c e
  obtain⟨v,o,ho,hd⟩:=I2.cell x c (cap.sub x c e)
  exact⟨v,o,hold1 _ _ ho,hd⟩
 ·show upd H2 s2.heap.objs.size (.lst []) (s2.heap.objs.size+1)=none
  rw[upd_ne (Nat.ne_of_gt (Nat.lt_succ_self _))]
  exact freshC
 ·intro x c e
  show upd H2 s2.heap.objs.size (.lst []) c=none
  rw[upd_ne (Nat.ne_of_lt (clt x c e))]
  exact I2.freeC x c (cap.sub x c e)
 ·intro p hp
  exact absurd (show p∈([]:List (Addr×Obj)) from hp) (by simp)
 ·rw[List.length_append,List.length_replicate,List.length_map]
  exact cap.len.symm
theorem comp_back (I2:Inv X pins σ H2 s2)(f2:∀b∈fp,FpOk X pins H2 b){σ':L2.St}{H':Hp}{s':Shared}{h':Heap}(J:Inv (compCx X Nc scope cl { s2 with heap:=s2.heap.push lstObj } (upd H2 s2.heap.objs.size (.lst [])) (s2.heap.objs.size+1) fp) [] σ' H' s')(sb:Heap.SameBut (s2.heap.objs.size+1) s'.heap h') :
  Inv X pins σ H' { s' with heap:=h' }:=by
 have I3:Inv X pins σ (upd H2 s2.heap.objs.size (.lst [])) { s2 with heap:=s2.heap.push lstObj }:=I2.laid (t':=s2.toks) (fun b u e=>Heap.get?_push_of_some _ e) (Nat.le_refl _) ⟨Nat.zero_le _,[],0,.nil,Heap.get?_push_size _ rfl⟩
 have sz:(s2.heap.push lstObj).objs.size=s2.heap.objs.size+1:=Heap.size_push _ _
 have same:∀{b:Addr} {o:Obj},(s2.heap.push lstObj).get? b=some o->h'.get? b=s'.heap.get? b:=fun {b o} e=>sb.2 b (by
  have:=Heap.lt_size e
  rw[sz] at this
  exact Nat.ne_of_lt this)
 have u:Un (frs X.stack) fp (upd H2 s2.heap.objs.size (.lst [])) H' (s2.heap.push lstObj) s'.heap:=J.base
 refine I3.call' (s':={ s' with heap:=h' }) (ch:=fp) J.os ⟨fun b o e n h1 h2=>?_,fun b o e n h1 h2=>?_,u.free,fun b o e h1=>?_,u.tups,u.frzs,u.tbls⟩ (fun b ob e=>?_) J.bare fun b hb=>?_
 ·show h'.get? b=_
  rw[same e];exact u.keep b o e n h1 h2
 ·show ∃sl,h'.get? b=_
  rw[same e];exact u.slot b o e n h1 h2
 ·show ∃o',h'.get? b=_
  rw[same e];exact u.there b o e h1
 ·have fr:H' (s2.heap.objs.size+1)=none:=J.free
  refine(J.hok b ob e).stay (fun c w hc q=>?_) (fun _ q=>q) (fun _ _ q=>q) fun _ _ _ q=>q
  refine(sb.2 c ?_).trans q
  rintro rfl
  rcases hc with rfl|hc
  ·rw[fr] at e;cases e
  ·rw[fr] at hc;cases hc
 ·obtain⟨f0,f1,_,f3,f4,f5⟩:=f2 b hb
  exact⟨f3,f1,f4,f5⟩
end
def capS:Option S->Option S
 |some (.im d)=>some (.im d)
 |_=>none
def sdC (n0:Nat)(caps:List Nat)(sd:DSt):DSt:=List.replicate n0 none++caps.map fun j=>capS (sd[j]?).join
def mapD (gt:D->DSt->M DSt)(fe:DSt->M D)(sd0:DSt):List D->M (List D)
 |[]=>.ok []
 |d::ds=>match gt d sd0 with
  |.ok sd1=>match fe sd1 with
   |.ok e=>match mapD gt fe sd0 ds with
    |.ok es=>.ok (e::es)
    |_=>.bad
   |_=>.bad
  |_=>.bad
def fComp (fi:DSt->M (List D))(n0:Nat)(caps:List Nat)(gt:D->DSt->M DSt)(fe:DSt->M D)(sd:DSt):M (List D):=(fi sd).bind fun ds=>if few ds then mapD gt fe (sdC n0 caps sd) ds else .bad
def PoF (K:PySem.W.Frag)(E:XK)(Hf H:Hp)(r:M (List D))(Q:VK):Prop:=match r with
 |.ok ds=>∀p xs Hf' H',Gr Hf H Hf' H'->H p=none->Hf' p=none->H' p=some (.lst xs)->Reps K Hf' ds xs->Q (.ref p) H'
 |.ex x=>∀c dx Hf' H',Gr Hf H Hf' H'->RepX K Hf' H' x c dx->E c dx H'
 |.bad=>False
def PFd (X:Cx)(E:XK)(e:Expr)(f:DSt->M (List D)):Prop :=
 ∃t:TE,PE X e t/\∀(H0:Hp) (B:Addr->Prop) (Hf:Hp) (sd:DSt) (σ:L2.St) (H:Hp) (Q:VK),SR X.K H0 B Hf sd σ H->PoF X.K E Hf H (f sd) Q->t σ H Q
theorem PoF.weak {K:PySem.W.Frag}{E:XK}{Hf H Hf1 H1:Hp}{r:M (List D)}{Q:VK}(g:Gr Hf H Hf1 H1)(h:PoF K E Hf H r Q):PoF K E Hf1 H1 r Q:=by
 cases r with
 |ok a=>exact fun p xs Hf' H' g' e1 e2 e3 e4=>h p xs Hf' H' (g.trans g') (g.all.free e1) e2 e3 e4
 |ex x=>exact fun c dx Hf' H' g' q=>h c dx Hf' H' (g.trans g') q
 |bad=>exact h
theorem PoF.bind {K:PySem.W.Frag}{E:XK}{Hf H:Hp}{α β:Type}{R:Hp->Hp->α->β->Prop}{r:M α}{k:α->M (List D)}{Q:VK}{Q1:β->Hp->Prop}(h:PoF K E Hf H (r.bind k) Q)(s:∀a b Hf1 H1,r=.ok a->Gr Hf H Hf1 H1->R Hf1 H1 a b->PoF K E Hf1 H1 (k a) Q->Q1 b H1):Po K E R Hf H r Q1:=by
 cases r with
 |ok a=>exact fun b Hf' H' g q=>s a b Hf' H' rfl g q (PoF.weak g h)
 |ex x=>exact h
 |bad=>exact h
def eNew (f:DSt->M (List D))(sd:DSt):M D:=(f sd).bind fun ds=>.ok (.lst ds)
theorem pd_new {X:Cx}{E:XK}{e:Expr}{f:DSt->M (List D)}(h:PFd X E e f):PEd X E e (eNew f):=by
 obtain⟨t,p,q⟩:=h
 refine⟨t,p,fun H0 B Hf sd σ H Q sr h=>q H0 B Hf sd σ H Q sr ?_⟩
 unfold eNew at h
 cases e:f sd with
 |ok ds =>
  rw[e] at h
  intro p xs Hf' H' g e1 e2 e3 e4
  refine h _ (upd Hf' p (.lst xs)) H' ⟨g.fz.trans (same_upd e2 _),fun b u z=>?_,g.all,fun a h1 h2=>?_⟩ (rep_lst.mpr ⟨p,xs,rfl,SqL.of upd_same,e4.mono (same_upd e2 _)⟩)
  ·by_cases hb:b=p
   ·subst hb;rw[upd_same] at z;rw[e3];exact z
   ·rw[upd_ne hb] at z;exact g.sub b u z
  ·have:a≠p:=fun z=>h1.nn (z▸e1)
   rw[upd_ne this];exact g.ban a h1 h2
 |ex x=>rw[e] at h;exact h
 |bad=>rw[e] at h;exact h
theorem mapD_noex {gt:D->DSt->M DSt}{fe:DSt->M D}{sd0:DSt}{x:XV}:∀{ds:List D},mapD gt fe sd0 ds=.ex x->False
 |[],h=>by cases h
 |d::ds,h=>by
  unfold mapD at h
  split at h
  ·split at h
   ·split at h<;>cases h
   ·cases h
  ·cases h
theorem SR.ofIm {K:PySem.W.Frag}{Hf H:Hp}{sd:DSt}{σ:L2.St}(e:Same Hf H)(hl:sd.length=σ.length)(him:∀(i:Nat) (d:D),sd[i]?=some (some (.im d))->∃v,σ[i]?=some (some v)/\Rep K Hf d v)(hno:∀(i:Nat) (t:S),sd[i]?=some (some t)->∃d,t=.im d) :
  SR K H (fun a=>Lv H a/\Hf a=none) Hf sd σ H :=
 ⟨e,Same.refl _,fun _ h=>h.2,fun _ h=>h.1,hl,fun i t h _=>(by obtain⟨d,rfl⟩:=hno i t h;exact him i d h),fun i t h ho=>(by obtain⟨d,rfl⟩:=hno i t h;cases ho),fun i _ t _ _ _ h ho _ _ _ _=>(by obtain⟨d,rfl⟩:=hno i t h;cases ho)⟩
theorem sdC_lt {n0:Nat}{caps:List Nat}{sd:DSt}{i:Nat}{s:S}(h:(sdC n0 caps sd)[i]?=some (some s)):n0<=i:=by
 refine Nat.le_of_not_lt fun hlt=>?_
 unfold sdC at h
 rw[List.getElem?_append_left (by simpa using hlt),List.getElem?_replicate] at h
 split at h<;>cases h
theorem sdC_at {n0:Nat}{caps:List Nat}{sd:DSt}{i:Nat}{s:S}(h:(sdC n0 caps sd)[i]?=some (some s)):∃k j d,i=n0+k/\caps[k]?=some j/\sd[j]?=some (some (.im d))/\s=.im d:=by
 obtain⟨k,rfl⟩:=Nat.exists_eq_add_of_le (sdC_lt h)
 unfold sdC at h
 rw[List.getElem?_append_right (by simp),List.length_replicate,Nat.add_sub_cancel_left,List.getElem?_map] at h
 cases ej:caps[k]? with
 |none=>rw[ej] at h;cases h
 |some j =>
  rw[ej] at h
  have h:capS (sd[j]?).join=some s:=by simpa using h
  cases z:sd[j]? with
  |none=>rw[z] at h;cases h
  |some q =>
   rw[z] at h
   cases q with
   |none=>cases h
   |some q =>
    cases q with
    |im d=>cases h;exact⟨k,j,d,rfl,ej,z,rfl⟩
    |ow _=>cases h
    |od _=>cases h
    |dk _=>cases h
    |xc _=>cases h
    |fn _=>cases h
theorem sdC_no {n0:Nat}{caps:List Nat}{sd:DSt}(i:Nat)(t:S)(h:(sdC n0 caps sd)[i]?=some (some t)):∃d,t=.im d:=by
 obtain⟨_,_,d,_,_,_,e⟩:=sdC_at h
 exact⟨d,e⟩
def Keep (n0:Nat)(gt:D->DSt->M DSt):Prop:=∀d sd sd1,gt d sd=.ok sd1->sd1.length=sd.length/\(∀i:Nat,n0<=i->sd1[i]?=sd[i]?)/\True
theorem keep_name {n0 k:Nat}(h:k<n0):Keep n0 (gNm k):=fun d sd sd1 e=>by
 cases e
 exact⟨List.length_set,fun i hi=>List.getElem?_set_ne (by lia),trivial⟩
theorem pfd_comp {X:Cx}{E:XK}{pos:Pos}{tg elt iter:Expr}{scope:Scope}{Nc:List Str}{n0:Nat}{caps:List Nat}{cl:List (Str×Addr)}{fi:DSt->M (List D)}{gt:D->DSt->M DSt}{fe:DSt->M D}(hc:X.calm=true)(hclos:closureFor scope X.env=pure cl)(cap:CapOk X Nc n0 caps scope cl)(hkind:scope.kind=.function)(hcell:∀y∈scope.names,y.2≠.cell)(hnames:∀y∈scope.names,y.2=.local->scope.names.lookup y.1=some .local)(hk:Keep n0 gt)(hi:PId X E tg iter fi)(hg:∀s3 H3 C ex,PGd (compCx X Nc scope cl s3 H3 C ex) tg gt)(he:∀s3 H3 C ex,PEd (compCx X Nc scope cl s3 H3 C ex) E0 elt fe)(hs:∀x,foldedSetIterable iter X.env x=pure x:=by intro _;rfl) :
  PFd X E (.ListComp elt [⟨tg,iter,[],0⟩] scope pos) (fComp fi n0 caps gt fe):=by
 refine⟨fun σ H Q=>∃H0 B Hf sd,SR X.K H0 B Hf sd σ H/\PoF X.K E Hf H (fComp fi n0 caps gt fe sd) Q,?_,fun H0 B Hf sd σ H Q sr h=>⟨H0,B,Hf,sd,sr,h⟩⟩
 rintro pins s σ H Q I ⟨H0,B,Hf,sd,sr,h⟩
 obtain⟨wi,pw,qw⟩:=hi
 rw[eval_ListComp]
 refine wpAny_comprehension_free (use:=none) rfl hs hclos hkind hnames ?_
 have step:=pw pins s σ H (fun J H2=>∃ds Hf2,Gr Hf H Hf2 H2/\ItOk X.K Hf2 H2 ds J/\PoF X.K E Hf2 H2 (if few ds then mapD gt fe (sdC n0 caps sd) ds else .bad) Q) I
  (qw H0 B Hf sd σ H _ sr (PoF.bind h fun ds J Hf2 H2 _ g2 jok h2=>⟨ds,Hf2,g2,jok,h2⟩))
 refine thn step fun v s1 h1=>thn h1 fun itv s2 h2=>?_
 obtain⟨it,fp,tn,J,H2,rfl,I2,T,st2,f2,ds,Hf2,g2,jok,hq⟩:=h2
 have sr2:=sr.gr g2
 split at hq
 case isFalse=>exact hq.elim
 case isTrue hfew =>
 have fresh:H2 s2.heap.objs.size=none:=I2.hok.fresh (Nat.le_refl _)
 have holdf:∀b∈fp,∃o,s2.heap.get? b=some o:=fun b hb=>let ⟨o,e,_⟩:=T.obj 0 _ st2 b hb;⟨o,e⟩
 refine wpAny_newObj_type (wpAny_newFunctionEnv hcell (by intro y hy;simp at hy) (fun h₁ hns₁ hsb₁=>?_) hkind)
 have hC:(s2.heap.push lstObj).objs.size=s2.heap.objs.size+1:=Heap.size_push _ _
 have hns:h₁.Ns (s2.heap.objs.size+1) (fun x=>([]:List (Str×Value)).reverse.lookup x):=hC▸hns₁
 have hsb:Heap.SameBut (s2.heap.objs.size+1) ((s2.heap.push lstObj).push { cls:=.type "dict", data:=.dict #[] }) h₁:=hC▸hsb₁
 have hold1:∀b o,s2.heap.get? b=some o->h₁.get? b=some o:=fun b o e=>by
  have hb:b<s2.heap.objs.size:=Heap.lt_size e
  exact(hsb.2 b (Nat.ne_of_lt (Nat.lt_succ_of_lt hb))).trans (Heap.get?_push_of_some _ (Heap.get?_push_of_some _ e))
 have hD:h₁.get? s2.heap.objs.size=some lstObj:=(hsb.2 _ (Nat.ne_of_lt (Nat.lt_succ_self _))).trans (Heap.get?_push_of_some _ (Heap.get?_push_size _ rfl))
 have J0:=comp_inv I2 f2 holdf hkind cap (tk:=s2.toks+([]:List (Str×Value)).length) hns hold1 hD
 have hg:=hg { s2 with heap:=s2.heap.push lstObj } (upd H2 s2.heap.objs.size (.lst [])) (s2.heap.objs.size+1) fp
 have he:=he { s2 with heap:=s2.heap.push lstObj } (upd H2 s2.heap.objs.size (.lst [])) (s2.heap.objs.size+1) fp
 generalize hXc:compCx X Nc scope cl { s2 with heap:=s2.heap.push lstObj } (upd H2 s2.heap.objs.size (.lst [])) (s2.heap.objs.size+1) fp=Xc at J0 hg he
 have eP:Xc.prog=X.prog:=by subst hXc;rfl
 have eW:Xc.w=X.w:=by subst hXc;rfl
 have eK:Xc.K=X.K:=by subst hXc;rfl
 have eA:Xc.A=X.A:=by subst hXc;rfl
 have eX:Xc.xe=fun _ _=>False:=by subst hXc;rfl
 have eE:Xc.env=compEnvC scope cl (s2.heap.objs.size+1) X.env:=by subst hXc;rfl
 have eC:Xc.calm=true:=by subst hXc;exact hc
 have fpc:∀{H':Hp},(∀b∈fp,H' b=none)->∀b∈fp,FpOk Xc [] H' b:=fun {H'} hn b hb=>by
  subst hXc
  obtain⟨f0,f1,f2',f3,f4,f5⟩:=f2 b hb
  obtain⟨o,eo⟩:=holdf b hb
  refine⟨hn b hb,Nat.ne_of_lt (Nat.lt_succ_of_lt (Heap.lt_size eo)),fun hz=>?_,.inl hb,fun x c e=>f4 x c (cap.sub x c e),fun p hp=>absurd (show p∈([]:List (Addr×Obj)) from hp) (by simp)⟩
  rcases List.mem_cons.mp (I2.stkSub b hz) with e|hz
  ·exact f1 e
  ·exact f2' hz
 have nfp:∀b∈fp,b≠s2.heap.objs.size:=fun b hb=>by
  obtain⟨o,eo⟩:=holdf b hb
  exact Nat.ne_of_lt (Heap.lt_size eo)
 obtain⟨tg',pg,qg⟩:=hg
 obtain⟨te,pe,qe⟩:=he
 have loop:∀s₃:Shared,s₃={ s2 with heap:=h₁,toks:=s2.toks+([]:List (Str×Value)).length } ->
   codeAny (model X.prog X.w) X.A (.compLoop (.ListComp elt [⟨tg,iter,[],0⟩] scope pos) 0 (.ref it) (.ref s2.heap.objs.size) (compEnvC scope cl (s2.heap.objs.size+1) X.env))
    (compPost (model X.prog X.w) X.A X.xe none (EP X pins σ Q) (.ref s2.heap.objs.size) (s2.heap.objs.size+1)) s₃:=by
  rintro s₃ rfl
  refine codeAny_comp_any (fun n s'=>∃i vs es H' Hf' σ',n=ds.length - i/\i<=ds.length/\Inv Xc [] σ' H' s'/\tn i s'.heap/\(∀b∈fp,H' b=none) /\
   H' s2.heap.objs.size=some (.lst vs)/\Hf' s2.heap.objs.size=none/\Gr Hf2 H2 Hf' H'/\Reps X.K Hf' es vs/\vs.length=i /\
   (sdC n0 caps sd).length=σ'.length/\(∀(j:Nat) (d:D),(sdC n0 caps sd)[j]?=some (some (.im d))->∃v,σ'[j]?=some (some v)/\Rep X.K Hf' d v) /\
   PoF X.K E Hf2 H2 ((mapD gt fe (sdC n0 caps sd) (ds.drop i)).bind fun fs=>.ok (es++fs)) Q) ?_ ds.length ?_
  ·rintro n s' ⟨i,vs,es,H',Hf',σ',rfl,hil,J1,st1,fr1,hd1,hf1,g1,rs1,hl1,hlen1,him1,hq1⟩
   have jj:=jok i Hf' H' g1.fz g1.sub
   cases q:ds[i]? with
   |none =>
    rw[q] at jj
    have tdone:=T.done Xc eP eW eK eC i [] s' _ H' (fun _ _=>False) J1 (fpc fr1) st1 jj
    rw[eA] at tdone
    refine wpAny_mono tdone (fun r s4 hr=>?_) fun _ _ z=>z
    obtain⟨rfl,J4⟩:=hr
    rw[List.drop_eq_nil_of_le (List.getElem?_eq_none_iff.mp q)] at hq1
    subst hXc
    obtain⟨m,hn4,_⟩:=J4.loc
    refine⟨m,hn4,fun h' sb=>?_⟩
    refine⟨.ref s2.heap.objs.size,H',comp_back I2 f2 J4 sb,rfl,?_⟩
    have hq2:PoF X.K E Hf2 H2 (.ok es) Q:=by
     have:es++([]:List D)=es:=List.append_nil es
     rw[<-this];exact hq1
    exact hq2 _ vs Hf' H' g1 fresh hf1 hd1 rs1
   |some d =>
    rw[q] at jj
    obtain⟨go,yl⟩:=jj
    have hlt:i<ds.length:=(List.getElem?_eq_some_iff.mp q).1
    have hdr:ds.drop i=d::ds.drop (i+1):=by
     rw[List.drop_eq_getElem_cons hlt]
     congr 1
     exact(List.getElem?_eq_some_iff.mp q).2
    obtain⟨sd1,e1,eg,ee,hq2⟩:∃sd1 e1,gt d (sdC n0 caps sd)=.ok sd1/\fe sd1=.ok e1/\PoF X.K E Hf2 H2 ((mapD gt fe (sdC n0 caps sd) (ds.drop (i+1))).bind fun fs=>.ok ((es++[e1])++fs)) Q:=by
     rw[hdr] at hq1
     unfold mapD at hq1
     split at hq1
     ·rename_i sd1 eg
      split at hq1
      ·rename_i e1 ee
       refine⟨sd1,e1,eg,ee,?_⟩
       cases em:mapD gt fe (sdC n0 caps sd) (ds.drop (i+1)) with
       |ok fs =>
        rw[em] at hq1
        have:(es++[e1])++fs=es++e1::fs:=by simp
        rw[M.bind_ok,this]
        exact hq1
       |ex x=>exact(mapD_noex em).elim
       |bad=>rw[em] at hq1;exact hq1.elim
      ·exact hq1.elim
     ·exact hq1.elim
    have titem:=T.item Xc eP eW eK eC i [] s' _ H' (fun _ _=>False) J1 (fpc fr1) st1 go
    rw[eA] at titem
    refine wpAny_mono titem (fun r s4 hr=>?_) fun _ _ z=>z
    obtain⟨u,rfl,h4⟩:=hr
    refine wpAny_mono h4 (fun _ s5 h5=>?_) fun _ _ z=>z
    obtain⟨x,H5,J5,r5,y5,st5,fr5⟩:=h5
    obtain⟨Hf5,g5,rx⟩:=yl x H5 y5
    have J5':=J5.pinned (fpc fr5) (T.obj _ _ st5)
    have hD5:H5 s2.heap.objs.size=some (.lst vs):=g5.all _ _ hd1
    have hf5:Hf5 s2.heap.objs.size=none:=g5.ban _ (Lv.lst hd1) hf1
    have him5:∀(j:Nat) (d:D),(sdC n0 caps sd)[j]?=some (some (.im d))->∃v,σ'[j]?=some (some v)/\Rep X.K Hf5 d v:=fun j d z=>let ⟨v,z1,z2⟩:=him1 j d z;⟨v,z1,z2.mono g5.fz⟩
    have sr5:SR Xc.K H5 (fun a=>Lv H5 a/\Hf5 a=none) Hf5 (sdC n0 caps sd) σ' H5:=eK▸SR.ofIm g5.sub hlen1 him5 sdC_no
    obtain⟨kl,kk,kn⟩:=hk d _ sd1 eg
    have hg2:=pg _ s5 σ' H5 x u (fun σ6 H6=>te σ6 H6 fun v7 H7=>∃Hf7,Gr Hf5 H5 Hf7 H7/\Rep X.K Hf7 e1 v7/\(sdC n0 caps sd).length=σ6.length/\(∀(j:Nat) (d:D),(sdC n0 caps sd)[j]?=some (some (.im d))->∃v,σ6[j]?=some (some v)/\Rep X.K Hf7 d v)) J5' r5
     (qg H5 _ Hf5 _ σ' H5 x d sd1 _ sr5 (eK▸rx) eg fun σ6 sr6=>qe H5 _ Hf5 sd1 σ6 H5 _ sr6 (by
      rw[ee]
      intro v7 Hf7 H7 g7 r7
      have r7:Rep Xc.K Hf7 e1 v7:=r7
      rw[eK] at r7
      refine⟨Hf7,g7,r7,by rw[<-kl];exact sr6.len,fun j d z=>?_⟩
      have z2:sd1[j]?=some (some (.im d)):=by rw[kk j (sdC_lt z)];exact z
      obtain⟨v,z3,z4⟩:=sr6.im j d z2
      rw[eK] at z4
      exact⟨v,z3,z4.mono g7.fz⟩))
    rw[eP,eW,eA,eX,eE] at hg2
    refine wpAny_mono hg2 (fun _ s6 h6=>?_) fun _ _ z=>z
    obtain⟨σ6,H6,J6,q6⟩:=h6
    have he2:=pe _ s6 σ6 H6 _ J6 q6
    rw[eP,eW,eA,eX,eE] at he2
    refine wpAny_mono he2 (fun y s7 h7=>?_) fun _ _ z=>z
    obtain⟨v7,H7,J7,r7,Hf7,g7,rv7,hl7,him7⟩:=h7
    have hD7:H7 s2.heap.objs.size=some (.lst vs):=g7.all _ _ hD5
    have hf7:Hf7 s2.heap.objs.size=none:=g7.ban _ (Lv.lst hD5) hf5
    have happ:=mt_append (X:=Xc) _ s7 σ6 H7 (.ref s2.heap.objs.size) [v7] (.ref s2.heap.objs.size) [y] (fun _ H8=>H8=upd H7 s2.heap.objs.size (.lst (vs++[v7]))) J7 rfl (.cons r7 .nil)
     ⟨_,vs,v7,rfl,rfl,hD7,by
      have h1:=of_decide_eq_true hfew
      have h2:=sizeLine_eq
      lia,rfl⟩
    rw[eP,eW,eA,eX] at happ
    refine wpAny_mono happ (fun _ s8 h8=>?_) fun _ _ z=>z
    obtain⟨_,H8,J8,_,e8⟩:=h8
    subst e8
    have g17:=(g1.trans g5).trans g7
    refine⟨ds.length - (i+1),by lia,i+1,vs++[v7],es++[e1],_,Hf7,σ6,rfl,hlt,J8.unpinned,?_,fun b hb=>?_,upd_same,hf7,⟨g17.fz,fun b o z=>?_,fun b o z=>?_,g17.ban⟩,?_,by rw[List.length_append,hl1];rfl,hl7,him7,hq2⟩
    ·exact T.keep _ _ _ st5 fun b hb o e=>(J8.pin (b,o) (List.mem_append_right _ (List.mem_append_right _ (mem_pinsAt hb e)))).1
    ·obtain⟨o,e,_⟩:=T.obj _ _ st5 b hb
     exact(J8.pin (b,o) (List.mem_append_right _ (List.mem_append_right _ (mem_pinsAt hb e)))).2.1
    ·have:b≠s2.heap.objs.size:=ne_of_none z hf7
     rw[upd_ne this];exact g17.sub b o z
    ·have:b≠s2.heap.objs.size:=ne_of_none z fresh
     rw[upd_ne this];exact g17.all b o z
    ·exact(rs1.mono (g5.fz.trans g7.fz)).append (Reps.cons rv7 Reps.nil)
  ·refine⟨0,[],[],_,Hf2,_,by simp,Nat.zero_le _,J0,T.keep 0 _ _ st2 fun b hb o e=>hold1 b o e,fun b hb=>?_,upd_same,g2.sub.free fresh,⟨Same.refl _,fun b o z=>?_,same_upd fresh _,fun _ _ z=>z⟩,Reps.nil,rfl,?_,fun j d z=>?_,?_⟩
   ·rw[upd_ne (nfp b hb)];exact(f2 b hb).1
   ·have:b≠s2.heap.objs.size:=ne_of_none (g2.sub b o z) fresh
    rw[upd_ne this];exact g2.sub b o z
   ·unfold sdC;simp only[List.length_append,List.length_replicate,List.length_map]
   ·obtain⟨k,j',d',rfl,ej,es,ed⟩:=sdC_at z
    cases ed
    obtain⟨v,z1,z2⟩:=sr2.im j' d es
    refine⟨v,?_,z2⟩
    rw[List.getElem?_append_right (by simp),List.length_replicate,Nat.add_sub_cancel_left,List.getElem?_map,ej]
    simp[z1]
   ·have:∀r:M (List D),(r.bind fun fs=>.ok ([]++fs))=r:=fun r=>by cases r<;>simp
    rw[List.drop_zero,this]
    exact hq
 show codeAny (model X.prog X.w) X.A (.compStart (.ListComp elt [⟨tg,iter,[],0⟩] scope pos) 0 (.ref it) (.ref s2.heap.objs.size) (compEnvC scope cl (s2.heap.push lstObj).objs.size X.env))
  (compPost (model X.prog X.w) X.A X.xe none (EP X pins σ Q) (.ref s2.heap.objs.size) (s2.heap.push lstObj).objs.size) { s2 with heap:=h₁,toks:=s2.toks+([]:List (Str×Value)).length }
 rw[hC]
 exact codeAny_compStart_list (loop _ rfl) (T.self X.A 0 _ _ _ (T.keep 0 _ _ st2 fun b hb o e=>hold1 b o e) (loop _ rfl))
theorem cap0 {X:Cx}{Nc:List Str}{n0:Nat}{scope:Scope}(hn:Nc.length=n0)(h:∀y∈scope.names,y.2≠.cell/\y.2≠.free):CapOk X Nc n0 [] scope []:=by
 have key:∀(l:List (Str×NameKind)) (y:Str) (k:NameKind),(∀p∈l,p.2≠.cell/\p.2≠.free)->(l.map fun(n,k)=>if(k==NameKind.free&&X.env.scope.kind==.function&&X.env.kindOf n==some .cell) then(n,NameKind.cell) else(n,k)).lookup y=some k->k≠.cell/\k≠.free:=by
  intro l y k
  induction l with
  |nil=>intro _ e;cases e
  |cons p r ih =>
   intro hp e
   obtain⟨n,kk⟩:=p
   have h0:=hp (n,kk) List.mem_cons_self
   have hf:(kk==NameKind.free)=false:=by
    have:=h0.2
    cases kk<;>first|rfl|exact absurd rfl this
   rw[List.map_cons] at e
   simp only[hf,Bool.false_and,Bool.false_eq_true,if_false,List.lookup_cons] at e
   split at e
   ·cases e;exact h0
   ·exact ih (fun q hq=>hp q (List.mem_cons_of_mem _ hq)) e
 refine⟨fun y c e=>(nomatch e),fun y e=>?_,fun i j x _ e=>by simp at e,by simpa using hn⟩
 rcases e with e|e
 ·exact absurd rfl (key _ y _ h e).1
 ·exact absurd rfl (key _ y _ h e).2
end DL
set_option maxHeartbeats 4000000
namespace DL
open PySem PySem.Spec PyProof.Rows L2
section
variable {X:Cx} {E:XK} {pos:Pos} {a b:Expr}
def fLst (fs:DSt->M (List D))(sd:DSt):M (List D):=(fs sd).bind fun ds=>if few ds then .ok ds else .bad
theorem pfd_lst {es:List Expr}{fs:DSt->M (List D)}(h:PAd X E es fs):PFd X E (.List es pos) (fLst fs):=by
 obtain⟨t,p,q⟩:=h
 refine⟨_,pe_lst p,fun H0 B Hf sd σ H Q sr h=>?_⟩
 refine q H0 B Hf sd σ H _ sr (PoF.bind h fun ds vs Hf1 H1 _ g1 rs h1=>?_)
 split at h1
 ·rename_i hf
  refine⟨few_line hf rs,fun p hp=>h1 p vs Hf1 _ ⟨Same.refl _,g1.sub.trans (same_upd hp _),same_upd hp _,fun _ _ e=>e⟩ hp (g1.sub.free hp) upd_same rs⟩
 ·exact h1.elim
theorem PoS.bindF {K:PySem.W.Frag}{E:XK}{H0 Hf H:Hp}{B:Addr->Prop}{sd:DSt}{σ:L2.St}{r:M (List D)}{k:List D->M O}{D':Ends}{Q1:VK}(sr:SR K H0 B Hf sd σ H)(h:PoS K E H0 B Hf (r.bind k) D')(s:∀ds p xs Hf1 H1,r=.ok ds->Gr Hf H Hf1 H1->SR K H0 B Hf1 sd σ H1->H p=none->Hf1 p=none->H1 p=some (.lst xs)->Reps K Hf1 ds xs->PoS K E H0 B Hf1 (k ds) D'->Q1 (.ref p) H1):PoF K E Hf H r Q1:=by
 cases r with
 |ok ds=>exact fun p xs Hf' H' g e1 e2 e3 e4=>s ds p xs Hf' H' rfl g (sr.gr g) e1 e2 e3 e4 (PoS.weak g.fz h)
 |ex x=>exact fun c dx Hf' H' g q=>h c dx Hf' H' g.fz (sr.gr g).fin q
 |bad=>exact h
theorem SR.set_new {K:PySem.W.Frag}{H0 Hf H H1:Hp}{B:Addr->Prop}{sd:DSt}{σ:L2.St}(r0:SR K H0 B Hf sd σ H){Hf1:Hp}(r:SR K H0 B Hf1 sd σ H1)(g:Same H H1)(i:Nat){p:Addr}{t:S}(hp:H p=none)(hf:Hf1 p=none)(ho:t.own=true)(h:S.at K Hf1 H1 p t) :
  SR K H0 B Hf1 (sd.set i (some t)) (σ.set i (some (.ref p))) H1 where
 sub:=r.sub
 all:=r.all
 ban:=r.ban
 bt:=r.bt
 len:=by rw[List.length_set,List.length_set];exact r.len
 imS:=fun j d' e z=>by
  by_cases hj:i=j
  ·subst hj
   have hi:i<sd.length:=by
    have:=(List.getElem?_eq_some_iff.mp e).1;simpa using this
   rw[List.getElem?_set_self hi] at e
   cases e
   rw[ho] at z;cases z
  ·rw[List.getElem?_set_ne hj] at e ⊢
   exact r.imS j d' e z
 ow:=fun j u e hu=>by
  by_cases hj:i=j
  ·subst hj
   have hi:i<sd.length:=by
    have:=(List.getElem?_eq_some_iff.mp e).1;simpa using this
   rw[List.getElem?_set_self hi] at e
   cases e
   exact⟨p,by rw[List.getElem?_set_self (by rw[<-r.len];exact hi)],r0.all.free hp,hf,h⟩
  ·rw[List.getElem?_set_ne hj] at e ⊢
   exact r.ow j u e hu
 sep:=fun j k u w q hjk e1 o1 e2 o2 e3 e4=>by
  have new:∀{l:Nat},i=l->(σ.set i (some (V.ref p)))[l]?=some (some (.ref q))->q=p:=fun {l} z e=>by
   subst z
   have hi:i<σ.length:=by
    have:=(List.getElem?_eq_some_iff.mp e).1;simpa using this
   rw[List.getElem?_set_self hi] at e
   cases e;rfl
  have old:∀{l:Nat} {u:S},i≠l->(sd.set i (some t))[l]?=some (some u)->u.own=true->(σ.set i (some (V.ref p)))[l]?=some (some (.ref q))->q≠p:=fun {l u} n e ou z=>by
   rw[List.getElem?_set_ne n] at e z
   obtain⟨q',e1,_,_,e4⟩:=r0.ow l u e ou
   rw[z] at e1
   cases e1
   obtain⟨o,eo⟩:=at_some e4
   exact ne_of_none eo hp
  by_cases n1:i=j
  ·have n2:i≠k:=fun z=>hjk (n1.symm.trans z)
   exact old n2 e2 o2 e4 (new n1 e3)
  ·by_cases n2:i=k
   ·exact old n1 e1 o1 e3 (new n2 e4)
   ·rw[List.getElem?_set_ne n1] at e1 e3
    rw[List.getElem?_set_ne n2] at e2 e4
    exact r.sep j k u w q hjk e1 o1 e2 o2 e3 e4
def sOwn (i:Nat)(f:DSt->M (List D))(sd:DSt):M O:=(f sd).bind fun ds=>.ok (.nx (sd.set i (some (.ow ds))))
theorem psd_own (i:Nat){x:Str}{e:Expr}{f:DSt->M (List D)}{pos':Pos}(hN:X.N.Nodup)(h:PFd X E e f)(hi:X.N[i]?=some x:=by rfl)(hx:Loc X.env.scope x:=by first|exact Or.inl rfl|exact Or.inr rfl)(hs:swapsWith e (some (.Name x pos')) pos.line X.env=pure false:=by rfl)(hf:X.fn x=true\/X.env.scope.names.lookup x=some .local:=by first|exact .inl rfl|exact .inr rfl|assumption) :
  PSd X E (.Assign [.Name x pos'] e pos) (sOwn i f):=by
 obtain⟨t,p,q⟩:=h
 refine⟨_,ps_set hN hi hx p hs hf,fun H0 B Hf sd σ H D sr h=>?_⟩
 refine q H0 B Hf sd σ H _ sr (PoS.bindF sr h fun ds p xs Hf1 H1 _ g1 sr1 e1 e2 e3 e4 h1=>?_)
 exact h1 _ Hf1 H1 (Same.refl _) (sr.set_new sr1 g1.all i e1 e2 rfl ⟨xs,e3,e4⟩)
def sApp (i:Nat)(f:DSt->M D)(sd:DSt):M O:=match sd[i]? with
 |some (some (.ow ds))=>(f sd).bind fun d=>if few ds then .ok (.nx (sd.set i (some (.ow (ds++[d]))))) else .bad
 |_=>.bad
theorem psd_app (i:Nat){x:Str}{e:Expr}{f:DSt->M D}{p1 p2 p3:Pos}(h:PEd X E e f)(hi:X.N[i]?=some x:=by rfl)(hv:Vis X.env.scope x:=by first|exact Or.inl rfl|exact Or.inr (Or.inl rfl)|exact Or.inr (Or.inr rfl))
  (hd:(x==("__debug__" : Str))=false:=by decide) (hcd:(x==("__classdict__" : Str))=false:=by decide)
  (hse:starEach [e] X.env=(false,eval e X.env)::starEach [] X.env:=by rfl)
  (hbase:attributeBase (.Name x p1) "append" X.env (eval (.Name x p1) X.env)=eval (.Name x p1) X.env:=by rfl)
  (hfew:((backTo p3 (starEach [e] X.env)).all (fun x=>!x.1)&&(backToKw p3 (keywordEach [] X.env)).all (fun x=>x.1.isSome)
   && decide ([e].length+([]:List Keyword).length+(if([]:List Keyword).isEmpty then 0 else 1)<30))=true:=by rfl)
  (hline:(p2.endLine==p3.line)=true:=by rfl) (hplain:(backTo p3 (starEach ([]:List Expr) X.env)).any (·.1)=false:=by rfl)
  (hsw:swapsWith (.Call (.Attribute (.Name x p1) "append" p2) [e] [] p3) none pos.line X.env=pure false:=by rfl) :
  PSd X E (.Expr (.Call (.Attribute (.Name x p1) "append" p2) [e] [] p3) pos) (sApp i f):=by
 obtain⟨t,pt,q⟩:=h
 refine⟨_,ps_expr (pe_bm PySem.F.plainAttrs_list PySem.F.slot_list_append PySem.F.type_list_append mt_append (pe_var hi hv hd hcd) (pa_cons pt pa_nil hse) hbase hfew hline hse hplain) hsw,fun H0 B Hf sd σ H D sr h=>?_⟩
 unfold sApp at h
 split at h
 ·rename_i ds ei
  obtain⟨p,z1,z2,z3,xs,z4,z5⟩:=sr.ow i _ ei rfl
  refine⟨_,z1,.inl ⟨rfl,xs,SqL.of z4⟩,?_⟩
  refine q H0 B Hf sd σ H _ sr (PoS.bind sr h fun d v Hf1 H1 _ g1 sr1 rv h1=>?_)
  split at h1
  ·rename_i hf
   have z5':=z5.mono g1.fz
   have hl:xs.length<sizeLine:=by
    have h1:=of_decide_eq_true hf
    have h2:=sizeLine_eq
    rw[<-z5.length,h2];lia
   refine⟨p,xs,v,rfl,rfl,g1.all _ _ z4,hl,?_⟩
   exact h1 _ Hf1 _ (Same.refl _) (sr1.change ei rfl z1 rfl ⟨_,upd_same,z5'.append (Reps.cons rv Reps.nil)⟩)
  ·exact h1.elim
 ·exact h.elim
def sRetO (i:Nat)(sd:DSt):M O:=match sd[i]? with
 |some (some (.ow ds))=>.ok (.rt (.ow ds))
 |_=>.bad
theorem psd_retO (i:Nat){x:Str}{p1:Pos}(hi:X.N[i]?=some x:=by rfl)(hv:Vis X.env.scope x:=by first|exact Or.inl rfl|exact Or.inr (Or.inl rfl)|exact Or.inr (Or.inr rfl))
  (hd:(x==("__debug__" : Str))=false:=by decide) (hcd:(x==("__classdict__" : Str))=false:=by decide):PSd X E (.Return (some (.Name x p1)) pos) (sRetO i):=by
 refine⟨_,ps_ret (pe_var hi hv hd hcd),fun H0 B Hf sd σ H D sr h=>?_⟩
 unfold sRetO at h
 split at h
 ·rename_i ds ei
  obtain⟨p,z1,z2,z3,z4⟩:=sr.ow i _ ei rfl
  exact⟨_,z1,h _ Hf H (Same.refl _) sr.fin ⟨p,rfl,z2,z3,z4⟩⟩
 ·exact h.elim
def frz (i:Nat)(sd:DSt):DSt:=match sd[i]? with
 |some (some (.ow ds))=>sd.set i (some (.im (.lst ds)))
 |_=>sd
theorem any_reps {Xc:Cx}{pins:List (Addr×Obj)}{σ:L2.St}{H:Hp}{s:Shared}(I:Inv Xc pins σ H s)(dx:D)(e:Value->Bool)(he:∀d v u,Rep Xc.K H d v->RelV v u->e u=D.eq d dx) :
  ∀{ds:List D} {xs:List V} {us:List Value},Reps Xc.K H ds xs->Vals xs us->us.any e=ds.any fun d=>D.eq d dx
 |[],xs,us,r,v=>by
  rw[reps_nil.mp r] at v
  cases v
  rfl
 |d::ds,xs,us,r,v=>by
  obtain⟨x,xr,rfl,r1,r2⟩:=reps_cons.mp r
  cases v with
  |cons v1 v2=>rw[List.any_cons,List.any_cons,he d x _ r1 v1,any_reps I dx e he r2 v2]
theorem mem_reps {Xc:Cx}{H:Hp}{ds:List D}:∀{xs:List V} {us:List Value} {u:Value},Reps Xc.K H ds xs->Vals xs us->u∈us->∃d v,d∈ds/\Rep Xc.K H d v/\RelV v u:=by
 induction ds with
 |nil =>
  intro xs us u r v hu
  rw[reps_nil.mp r] at v
  cases v
  cases hu
 |cons d ds ih =>
  intro xs us u r v hu
  obtain⟨x,xr,rfl,r1,r2⟩:=reps_cons.mp r
  cases v with
  |cons v1 v2 =>
   rcases List.mem_cons.mp hu with rfl|hu
   ·exact⟨d,x,List.mem_cons_self,r1,v1⟩
   ·obtain⟨d',v',h1,h2,h3⟩:=ih r2 v2 hu
    exact⟨d',v',List.mem_cons_of_mem _ h1,h2,h3⟩
def inD (dx:D)(ds:List D):Bool:=ds.any fun d=>D.eq d dx
def rInD (K:PySem.W.Frag)(neg:Bool):R2:=fun x y H Q=>∃dx ds,Rep K H dx x/\(Rep K H (.lst ds) y\/Rep K H (.tup ds) y)/\D.deps ds<=60/\Q (.bl (if neg then !inD dx ds else inD dx ds)) H
theorem deps_mem:∀{ds:List D} {d:D},d∈ds->d.dep<=D.deps ds
 |e::ds,d,h=>by
  rw[D.deps]
  rcases List.mem_cons.mp h with rfl|h
  ·lia
  ·have:=deps_mem h;lia
open Classical in
theorem op_inD (hu:X.A.units+64<cLine):OpR X (compareOp .In) (rInD X.K false):=by
 intro pins s σ H x y v u Q I rx ry h
 obtain⟨dx,ds,hx,hy,hd,q⟩:=h
 let e:Value->Bool:=fun u=>decide (∃d v,Rep X.K H d v/\RelV v u/\D.eq d dx=true)
 have he:∀d v u,Rep X.K H d v->RelV v u->e u=D.eq d dx:=fun d v u r1 r2=>by
  cases z:D.eq d dx with
  |true=>exact decide_eq_true ⟨d,v,r1,r2,z⟩
  |false =>
   refine decide_eq_false ?_
   rintro⟨d',v',a1,a2,a3⟩
   have e1:v'=v:=RelV.inj a2 r2
   subst e1
   rw[rep_inj I d d' _ r1 a1,a3] at z
   cases z
 have each:∀{xs:List V} {us:List Value},Reps X.K H ds xs->Vals xs us->∀w∈us,SeqAt.EqAt X.A.in1 s w v (e w):=fun {xs us} r1 r2 w hw=>by
  obtain⟨d,z,m1,m2,m3⟩:=mem_reps r1 r2 hw
  rw[he d z w m2 m3]
  refine(cmp_at I d dx X.A.in1 z x w v ?_ m2 hx m3 rx).eq
  have:=deps_mem m1
  show X.A.units+1+_<_
  lia
 rcases hy with hy|hy
 ·obtain⟨p,xs,rfl,hp,hr⟩:=rep_lst.mp hy
  cases ry
  obtain⟨its,r,pl,hz⟩:=I.list hp
  refine SeqAt.in_listAt e pl.isList (fun w hw=>each hr r w (by simpa using hw)) ⟨.bl _,H,I,rfl,?_⟩
  rw[show its.toArray.any e=its.any e by simp,any_reps I dx e he hr r]
  exact q
 ·obtain⟨p,xs,rfl,hp,hr⟩:=rep_tupQ hy
  cases ry
  obtain⟨its,r,pl,hz⟩:=I.tuple hp
  refine SeqAt.in_tupleAt e pl (fun w hw=>each hr r w (by simpa using hw)) ⟨.bl _,H,I,rfl,?_⟩
  rw[show its.toArray.any e=its.any e by simp,any_reps I dx e he hr r]
  exact q
open Classical in
theorem op_notinD (hu:X.A.units+64<cLine):OpR X (compareOp .NotIn) (rInD X.K true):=by
 intro pins s σ H x y v u Q I rx ry h
 obtain⟨dx,ds,hx,hy,hd,q⟩:=h
 let e:Value->Bool:=fun u=>decide (∃d v,Rep X.K H d v/\RelV v u/\D.eq d dx=true)
 have he:∀d v u,Rep X.K H d v->RelV v u->e u=D.eq d dx:=fun d v u r1 r2=>by
  cases z:D.eq d dx with
  |true=>exact decide_eq_true ⟨d,v,r1,r2,z⟩
  |false =>
   refine decide_eq_false ?_
   rintro⟨d',v',a1,a2,a3⟩
   have e1:v'=v:=RelV.inj a2 r2
   subst e1
   rw[rep_inj I d d' _ r1 a1,a3] at z
   cases z
 have each:∀{xs:List V} {us:List Value},Reps X.K H ds xs->Vals xs us->∀w∈us,SeqAt.EqAt X.A.in1 s w v (e w):=fun {xs us} r1 r2 w hw=>by
  obtain⟨d,z,m1,m2,m3⟩:=mem_reps r1 r2 hw
  rw[he d z w m2 m3]
  refine(cmp_at I d dx X.A.in1 z x w v ?_ m2 hx m3 rx).eq
  have:=deps_mem m1
  show X.A.units+1+_<_
  lia
 rcases hy with hy|hy
 ·obtain⟨p,xs,rfl,hp,hr⟩:=rep_lst.mp hy
  cases ry
  obtain⟨its,r,pl,hz⟩:=I.list hp
  refine SeqAt.notIn_listAt e pl.isList (fun w hw=>each hr r w (by simpa using hw)) ⟨.bl _,H,I,rfl,?_⟩
  rw[show its.toArray.any e=its.any e by simp,any_reps I dx e he hr r]
  exact q
 ·obtain⟨p,xs,rfl,hp,hr⟩:=rep_tupQ hy
  cases ry
  obtain⟨its,r,pl,hz⟩:=I.tuple hp
  refine SeqAt.notIn_tupleAt e pl (fun w hw=>each hr r w (by simpa using hw)) ⟨.bl _,H,I,rfl,?_⟩
  rw[show its.toArray.any e=its.any e by simp,any_reps I dx e he hr r]
  exact q
def gIn:D->D->M D
 |x,.lst ds=>if D.deps ds<=60 then .ok (.bl (inD x ds)) else .bad
 |x,.tup ds=>if D.deps ds<=60 then .ok (.bl (inD x ds)) else .bad
 |_,_=>.bad
def gNotIn:D->D->M D
 |x,.lst ds=>if D.deps ds<=60 then .ok (.bl (!inD x ds)) else .bad
 |x,.tup ds=>if D.deps ds<=60 then .ok (.bl (!inD x ds)) else .bad
 |_,_=>.bad
theorem od_in (hu:X.A.units+64<cLine):OpD X E (compareOp .In) gIn:=by
 refine⟨_,op_inD hu,fun Hf H x y dx dy Q e rx ry q=>?_⟩
 unfold gIn at q
 split at q
 ·split at q
  ·rename_i hd
   exact⟨_,_,rx.mono e,.inl (ry.mono e),hd,Po.ret e q (rep_bl.mpr rfl)⟩
  ·exact q.elim
 ·split at q
  ·rename_i hd
   exact⟨_,_,rx.mono e,.inr (ry.mono e),hd,Po.ret e q (rep_bl.mpr rfl)⟩
  ·exact q.elim
 ·exact q.elim
theorem od_notin (hu:X.A.units+64<cLine):OpD X E (compareOp .NotIn) gNotIn:=by
 refine⟨_,op_notinD hu,fun Hf H x y dx dy Q e rx ry q=>?_⟩
 unfold gNotIn at q
 split at q
 ·split at q
  ·rename_i hd
   exact⟨_,_,rx.mono e,.inl (ry.mono e),hd,Po.ret e q (rep_bl.mpr rfl)⟩
  ·exact q.elim
 ·split at q
  ·rename_i hd
   exact⟨_,_,rx.mono e,.inr (ry.mono e),hd,Po.ret e q (rep_bl.mpr rfl)⟩
  ·exact q.elim
 ·exact q.elim
end
end DL
set_option maxHeartbeats 4000000
namespace DL
open PySem PySem.Spec PyProof.Rows L2
section
variable {X:Cx} {pins:List (Addr×Obj)} {σ:L2.St} {H:Hp} {s:Shared} {h':Heap} {t':Nat} {fp:List Addr}
theorem _root_.L2.Inv.turnedT {T:Addr}{o:HO}(I:Inv X pins σ H s)(hf:∀b∈fp,FpOk X pins H b)(k:∀b u,b ∉ fp->s.heap.get? b=some u->h'.get? b=some u)(hT:s.heap.objs.size<=T)(new:ObjOk X.prog X.w (upd H T o) h' T o) :
  Inv X pins σ (upd H T o) { s with heap:=h',toks:=t' }:=by
 have hn:=I.hok.fresh hT
 have ne:∀b u,s.heap.get? b=some u->b≠T:=fun b u e=>Nat.ne_of_lt (Nat.lt_of_lt_of_le (Heap.lt_size e) hT)
 refine I.step (g':=s.gens) (d':=s.drawn) (ch:=fp) (fun b hb=>?_) (fun b u _ _ hc e _=>k b u hc e) (fun b u _ _ hc e _=>⟨u.slots,k b u hc e⟩) (fun b u _ e n=>by rw[upd_ne (ne b u e)];exact n) (fun b u hc e=>⟨u,k b u hc e⟩)
  (fun b xs e=>by rw[upd_ne (ne_of_none e hn)];exact e) (fun b u xs e=>by rw[upd_ne (ne_of_none e hn)];exact e) (fun b l c q e=>by rw[upd_ne (ne_of_none e hn)];exact e) (fun m hm=>?_) (fun b u e=>?_) I.bare
 ·obtain⟨f0,f1,f2,f3,f4,f5⟩:=hf b hb
  exact⟨f3,f1,f4,f5⟩
 ·obtain⟨ob,es,ep,ho,r⟩:=hm
  exact⟨ob,es,ep,k _ ob (fun z=>(hf _ z).2.1 rfl) ho,r⟩
 ·by_cases hb:b=T
  ·subst hb;rw[upd_same] at e;cases e;exact new
  ·rw[upd_ne hb] at e
   have nf:∀c v,H c=some v->c ∉ fp:=fun c v e z=>by rw[(hf c z).1] at e;cases e
   refine(I.hok b u e).stay (fun c v hc q=>k c v ?_ q) (fun c q=>by rw[upd_ne (ne_of_none q hn)];exact q) (fun c xs q=>by rw[upd_ne (ne_of_none q hn)];exact q) fun c _ _ q=>by rw[upd_ne (ne_of_none q hn)];exact q
   rcases hc with rfl|hc
   ·exact nf _ _ e
   ·exact nf _ _ hc
theorem _root_.L2.Inv.turnedF (I:Inv X pins σ H s)(hf:∀b∈fp,FpOk X pins H b)(k:∀b u,b ∉ fp->s.heap.get? b=some u->h'.get? b=some u):Inv X pins σ H { s with heap:=h',toks:=t' }:=by
 refine I.step (g':=s.gens) (d':=s.drawn) (ch:=fp) (fun b hb=>?_) (fun b u _ _ hc e _=>k b u hc e) (fun b u _ _ hc e _=>⟨u.slots,k b u hc e⟩) (fun b u _ e n=>n) (fun b u hc e=>⟨u,k b u hc e⟩)
  (fun b xs e=>e) (fun b u xs e=>e) (fun _ _ _ _ e=>e) (fun m hm=>?_) (fun b u e=>?_) I.bare
 ·obtain⟨f0,f1,f2,f3,f4,f5⟩:=hf b hb
  exact⟨f3,f1,f4,f5⟩
 ·obtain⟨ob,es,ep,ho,r⟩:=hm
  exact⟨ob,es,ep,k _ ob (fun z=>(hf _ z).2.1 rfl) ho,r⟩
 ·have nf:∀c v,H c=some v->c ∉ fp:=fun c v e z=>by rw[(hf c z).1] at e;cases e
  refine(I.hok b u e).stay (fun c v hc q=>k c v ?_ q) (fun c q=>q) (fun c xs q=>q) fun _ _ _ q=>q
  rcases hc with rfl|hc
  ·exact nf _ _ e
  ·exact nf _ _ hc
end
def Ite (K:PySem.W.Frag)(a:Addr):It :=
 ⟨fun i H=>∃xs x,SqL K H a xs/\xs[i]?=some x,fun i H x H'=>∃p y,H p=none/\x=.ref p/\H'=upd H p (.tup [.int i,y])/\∀xs,SqL K H a xs->xs[i]?=some y,fun i H=>∃xs,SqL K H a xs/\xs.length<=i⟩
theorem turn_enum {P:Program}{w:World}{K:PySem.W.Frag}{es:List Expr}{k:Nat}{pos:Pos}(a e it:Addr)(hne:e≠it):Turn P w K (.Tuple es k pos) (Ite K a) [e,it] e (fun i h=>(∃old,IsEnum h e it (i:Nat) old)/\h.IsListIter it a i) where
 mem:=by simp
 obj:=fun i h st b hb=>by
  obtain⟨⟨old,h1⟩,h2⟩:=st
  rcases List.mem_cons.mp hb with rfl|hb
  ·exact⟨_,h1,fun v z=>by cases z⟩
  ·have eb:b=it:=by simpa using hb
   subst eb
   obtain⟨o,e,c,d⟩:=h2
   exact⟨o,e,fun v z=>by rw[d] at z;cases z⟩
 keep:=fun i h h' st kk=>by
  obtain⟨⟨old,h1⟩,h2⟩:=st
  exact⟨⟨old,kk e (by simp) _ h1⟩,h2.at fun o q=>kk it (by simp) o q⟩
 item:=by
  intro X hP hw hK hc i pins s σ H E I hf st hg
  subst hP hw hK
  obtain⟨⟨old,h1⟩,h2⟩:=st
  obtain⟨xs,x,hq,hx⟩:=hg
  obtain⟨its,rv,p,hz⟩:=I.list hq
  obtain⟨u,hu,ru⟩:=rv.get hx
  refine wpAny_pyNext_enum_item h1 h2 p.isList (x:=u) (by simpa using hu) hne fun h' a1 a2 a3 a4 a5=>⟨_,rfl,wpAny_letOwnedTupleGo_enum a1 fun h'' b1 b2=>?_⟩
  have ge:e≠s.heap.objs.size:=Nat.ne_of_lt (Heap.lt_size h1)
  have kk:∀b u,b ∉ [e,it]->s.heap.get? b=some u->h''.get? b=some u:=fun b u nb q=>(b2.2 b (fun z=>nb (by simp[z]))).trans (a5 b u (fun z=>nb (by simp[z])) (fun z=>nb (by simp[z])) q)
  have hT:h''.get? s.heap.objs.size=some { cls:=.type "tuple", data:=.seq #[.int i s.toks,u] }:=(b2.2 _ (Ne.symm ge)).trans a3
  have git:it≠s.heap.objs.size:=by obtain⟨o,e,_⟩:=id h2;exact Nat.ne_of_lt (Heap.lt_size e)
  refine⟨.ref s.heap.objs.size,_,I.turnedT (o:=.tup [.int i,x]) (t':=s.toks+1) hf kk (Nat.le_refl _) ⟨by show 2<=sizeLine;decide,[.int i s.toks,u],.cons ⟨_,rfl⟩ (.cons ru .nil),⟨_,hT,rfl,_,rfl⟩⟩,rfl,
   ⟨_,x,I.fresh,rfl,rfl,fun ys hy=>by rw[I.list_inj hy hq];exact hx⟩,⟨⟨u,by simpa using b1⟩,a2.at fun o q=>(b2.2 it (Ne.symm hne)).trans q⟩,fun b hb=>?_⟩
  have:b≠s.heap.objs.size:=by
   rcases List.mem_cons.mp hb with rfl|hb
   ·exact ge
   ·have eb:b=it:=by simpa using hb
    subst eb;exact git
  rw[upd_ne this];exact(hf b hb).1
 done:=by
  intro X hP hw hK hc i pins s σ H E I hf st hg
  subst hP hw hK
  obtain⟨⟨old,h1⟩,h2⟩:=st
  obtain⟨xs,hq,hx⟩:=hg
  obtain⟨its,rv,p,hz⟩:=I.list hq
  have hl:=rv.length
  exact wpAny_pyNext_enum_end (I.ok.hd hc) h1 h2 p.isList (by simp;lia) fun h' eb=>⟨rfl,I.turnedF (t':=s.toks) hf fun b u nb q=>eb b u (fun z=>nb (by simp[z])) q⟩
 self:=fun _ _ _ _ _ st h=>let ⟨⟨_,h1⟩,_⟩:=st;wpAny_pyIter_enum h1 h
structure ZA (z TI TO i1 i2:Addr):Prop where
 TIz:TI≠z
 TOz:TO≠z
 i1z:i1≠z
 i2z:i2≠z
 TITO:TI≠TO
 TIi1:TI≠i1
 TIi2:TI≠i2
 TOi1:TO≠i1
 TOi2:TO≠i2
 i12:i1≠i2
section
variable {X:Cx} {E:XK} {pos p p2:Pos} {es:List Expr} {k:Nat}
def iEn (K:PySem.W.Frag)(tl:TA):TI:=fun σ H R=>tl σ H fun vs H1=>∃a,vs=[.ref a]/\(∃xs,SqL K H1 a xs)/\R (Ite K a) H1
theorem pi_enum {l:Expr}{tl:TA} (hg:Gl X "enumerate") (hm:X.mg "enumerate" = none) (hl:PA X [l] tl) (hs:starEach [l] X.env=[(false,eval l X.env)]:=by rfl):PI X (.Tuple es k p2) (.Call (.Name "enumerate" p) [l] [] pos) (iEn X.K tl):=by
 intro pins s σ H R I h
 refine Call_ (ld_blt I hg hm boot_enumerate (PyProof.Rows.callWith_type1 (thn (hl pos pins s σ H _ I h) fun us s1 ⟨vs,H1,I1,r1,q1⟩=>?_) hs rfl))
 obtain⟨a,rfl,⟨xs,hq⟩,q⟩:=q1
 obtain⟨u,rfl,rx⟩:=vals1 r1
 cases rx
 obtain⟨its,rv,pl,hz⟩:=I1.list hq
 refine call_enumerate_list pl.isList fun h' e1 e2 e3 e4=>wpAny_pyIter_enum e1 ?_
 have I2:Inv X pins σ H1 { s1 with heap:=h' }:=I1.kept (t':=s1.toks) e4
 refine⟨s1.heap.objs.size+1,[s1.heap.objs.size+1,s1.heap.objs.size],_,_,H1,rfl,I2,turn_enum a (s1.heap.objs.size+1) s1.heap.objs.size (Nat.succ_ne_self _),⟨⟨_,by simpa using e1⟩,e2⟩,fun b hb=>?_,q⟩
 have hb:s1.heap.objs.size<=b:=by simp at hb;rcases hb with rfl|rfl<;>lia
 exact I1.fpOk hb (I1.hok.fresh hb)
def enumD (n:Nat):List D->List D
 |[]=>[]
 |d::r=>.tup [.int n,d]::enumD (n+1) r
theorem enumD_get:∀(ds:List D) (n i:Nat),(enumD n ds)[i]?=(ds[i]?).map fun d=>.tup [.int ((n+i:Nat):Int),d]
 |[],_,_=>by simp[enumD]
 |d::r,n,0=>by simp[enumD]
 |d::r,n,i+1=>by
  rw[enumD,List.getElem?_cons_succ,enumD_get r (n+1) i,List.getElem?_cons_succ]
  congr 1;funext d;congr 3;lia
def iEnum (fs:DSt->M (List D))(sd:DSt):M (List D):=(fs sd).bind fun ds=>match ds with
 |[.lst xs]=>.ok (enumD 0 xs)
 |_=>.bad
theorem ite_ok {K:PySem.W.Frag}{Hf H:Hp}{a:Addr}{xs:List V}{ds:List D}(h:SqL K Hf a xs)(r:Reps K Hf ds xs):ItOk K Hf H (enumD 0 ds) (Ite K a):=by
 intro i Hf1 H1 e1 e2
 have h2:=e2.seq (e1.seq h)
 rw[enumD_get]
 cases q:ds[i]? with
 |some d =>
  obtain⟨x,ex,rx⟩:=r.get q
  refine⟨⟨xs,x,h2,ex⟩,fun y H2 hy=>?_⟩
  obtain⟨p,y',hp,rfl,rfl,hall⟩:=hy
  have ey:=hall xs h2
  rw[ex] at ey
  cases ey
  exact⟨_,Gr.alloc e2 hp _,Gr.tup e2 hp (Reps.cons (rep_int.mpr (by simp)) (Reps.cons (rx.mono e1) Reps.nil))⟩
 |none=>exact⟨xs,h2,List.getElem?_eq_none_iff.mp (r.none_of q)⟩
theorem pid_enum {l:Expr}{fs:DSt->M (List D)} (hg:Gl X "enumerate") (hm:X.mg "enumerate" = none) (h:PAd X E [l] fs) (hs:starEach [l] X.env=[(false,eval l X.env)]:=by rfl):PId X E (.Tuple es k p2) (.Call (.Name "enumerate" p) [l] [] pos) (iEnum fs):=by
 obtain⟨t,pt,q⟩:=h
 refine⟨_,pi_enum hg hm pt hs,fun H0 B Hf sd σ H R sr h=>?_⟩
 refine q H0 B Hf sd σ H _ sr (Po.bind h fun ds vs Hf1 H1 _ g1 rs h1=>?_)
 split at h1
 ·rename_i xs
  obtain⟨v,rfl,rv⟩:=reps1 rs
  obtain⟨a,ys,rfl,ha,hr⟩:=rep_lst.mp rv
  exact⟨a,rfl,⟨ys,g1.sub.seq ha⟩,Po.ret (R:=ItOk X.K) g1.sub h1 (ite_ok ha hr)⟩
 ·exact h1.elim
end
def keyD:D->Option Key
 |.int i=>some (.inl i)
 |.str x=>some (.inr x)
 |_=>none
def keysD:List D->Option (List Key)
 |[]=>some []
 |d::r=>match keyD d,keysD r with
  |some k,some ks=>some (k::ks)
  |_,_=>none
theorem keyD_rep {K:PySem.W.Frag}{H:Hp}{d:D}{k:Key}{v:V}(e:keyD d=some k)(r:Rep K H d v):v=kV k:=by
 cases d with
 |int i=>cases e;exact rep_int.mp r
 |str x=>cases e;exact rep_str.mp r
 |non=>cases e
 |bl _=>cases e
 |tup _=>cases e
 |lst _=>cases e
theorem keysD_reps {K:PySem.W.Frag}{H:Hp}:∀{ds:List D} {ks:List Key} {vs:List V},keysD ds=some ks->Reps K H ds vs->vs=ks.map kV
 |[],ks,vs,e,r=>by cases e;rw[reps_nil.mp r];rfl
 |d::ds,ks,vs,e,r=>by
  obtain⟨x,xr,rfl,r1,r2⟩:=reps_cons.mp r
  unfold keysD at e
  split at e
  ·rename_i k ks' e1 e2
   cases e
   rw[keyD_rep e1 r1,keysD_reps e2 r2]
   rfl
  ·cases e
def putD {κ:Type}[DecidableEq κ](kvs:List (κ×D))(k:κ)(d:D):List (κ×D) :=
 if(kvs.any fun kv=>decide (kv.1=k))=true then kvs.map (fun kv=>if kv.1=k then(kv.1,d) else kv) else kvs++[(k,d)]
def hasD {κ:Type}[DecidableEq κ](kvs:List (κ×D))(k:κ):Bool:=kvs.any fun kv=>decide (kv.1=k)
def getD' {κ:Type}[DecidableEq κ](kvs:List (κ×D))(k:κ):Option D:=(kvs.find? fun kv=>decide (kv.1=k)).map (·.2)
section
variable {κ:Type} [DecidableEq κ]
variable {K:PySem.W.Frag} {H:Hp}
theorem RepKV.any {kvs:List (κ×D)}{ys:List (κ×V)}(r:RepKV K H kvs ys)(k:κ):(kvs.any fun kv=>decide (kv.1=k))=(ys.any fun kv=>decide (kv.1=k)):=by
 unfold RepKV at r
 induction r with
 |nil=>rfl
 |cons h t ih=>rw[List.any_cons,List.any_cons,ih,h.1]
theorem RepKV.get {kvs:List (κ×D)}{ys:List (κ×V)}(r:RepKV K H kvs ys)(k:κ){d:D}(e:getD' kvs k=some d):∃v,valV ys k=some v/\Rep K H d v:=by
 unfold RepKV at r
 induction r with
 |nil=>cases e
 | @cons p q ps qs h t ih =>
  by_cases hk:p.1=k
  ·have e1:getD' (p::ps) k=some p.2:=by simp[getD',List.find?_cons,hk]
   rw[e1] at e
   cases e
   exact⟨q.2,valV_pos (h.1▸hk),h.2⟩
  ·have e1:getD' (p::ps) k=getD' ps k:=by simp[getD',List.find?_cons,hk]
   rw[e1] at e
   obtain⟨v,h1,h2⟩:=ih e
   exact⟨v,by rw[valV_neg (fun z=>hk (h.1.trans z))];exact h1,h2⟩
theorem RepKV.none {kvs:List (κ×D)}{ys:List (κ×V)}(r:RepKV K H kvs ys)(k:κ)(e:getD' kvs k=.none):valV ys k=.none:=by
 unfold RepKV at r
 induction r with
 |nil=>rfl
 | @cons p q ps qs h t ih =>
  by_cases hk:p.1=k
  ·have e1:getD' (p::ps) k=some p.2:=by simp[getD',List.find?_cons,hk]
   rw[e1] at e
   cases e
  ·have e1:getD' (p::ps) k=getD' ps k:=by simp[getD',List.find?_cons,hk]
   rw[e1] at e
   rw[valV_neg (fun z=>hk (h.1.trans z))];exact ih e
theorem RepKV.repl {kvs:List (κ×D)}{ys:List (κ×V)}(r:RepKV K H kvs ys)(k:κ){d:D}{v:V}(h:Rep K H d v):RepKV K H (kvs.map fun kv=>if kv.1=k then(kv.1,d) else kv) (ys.map fun kv=>if kv.1=k then(kv.1,v) else kv):=by
 unfold RepKV at r ⊢
 induction r with
 |nil=>exact .nil
 | @cons p q ps qs hp t ih =>
  refine .cons ?_ ih
  show(if p.1=k then(p.1,d) else p).1=(if q.1=k then(q.1,v) else q).1/\Rep K H (if p.1=k then(p.1,d) else p).2 (if q.1=k then(q.1,v) else q).2
  by_cases hk:p.1=k
  ·rw[if_pos hk,if_pos (hp.1▸hk)];exact⟨hp.1,h⟩
  ·rw[if_neg hk,if_neg (fun z=>hk (hp.1.trans z))];exact hp
theorem RepKV.put {kvs:List (κ×D)}{ys:List (κ×V)}(r:RepKV K H kvs ys)(k:κ){d:D}{v:V}(h:Rep K H d v):RepKV K H (putD kvs k d) (putK ys k v):=by
 unfold putD putK
 rw[r.any k]
 split
 ·exact r.repl k h
 ·exact Paired.snoc r ⟨rfl,h⟩
theorem RepKV.length {kvs:List (κ×D)}{ys:List (κ×V)}(r:RepKV K H kvs ys):kvs.length=ys.length:=Paired.length r
end
section
variable {X:Cx} {E:XK} {pos p1 p2 pos':Pos} {key value:Expr} {x:Str}
def sDNewT (i:Nat)(sd:DSt):M O:=.ok (.nx (sd.set i (some (.od []))))
theorem psd_dnewT (i:Nat)(hN:X.N.Nodup)(hi:X.N[i]?=some x:=by rfl)(hx:Loc X.env.scope x:=by first|exact Or.inl rfl|exact Or.inr rfl)(hs:swapsWith (.Dict [] [] p2) (some (.Name x pos')) pos.line X.env=pure false:=by rfl)(hf:X.fn x=true\/X.env.scope.names.lookup x=some .local:=by first|exact .inl rfl|exact .inr rfl|assumption) :
  PSd X E (.Assign [.Name x pos'] (.Dict [] [] p2) pos) (sDNewT i):=by
 refine⟨_,ps_set hN hi hx pe_dnewT hs hf,fun H0 B Hf sd σ H D sr h=>?_⟩
 exact fun p hp=>h _ Hf _ (Same.refl _) (sr.set_own i hp rfl ⟨[],upd_same,.nil⟩)
def dput:Option (Option S)->D->D->Option S
 |some (some (.od kvs)),.tup ds,v=>match keysD ds with
  |some ks=>if kvs.length<=1000000 then some (.od (putD kvs ks v)) else none
  |none=>none
 |some (some (.dk kvs)),k,v=>match keyD k with
  |some k=>if kvs.length<=1000000 then some (.dk (putD kvs k v)) else none
  |none=>none
 |_,_,_=>none
def dhas:Option (Option S)->D->Option Bool
 |some (some (.od kvs)),.tup ds=>(keysD ds).map (hasD kvs)
 |some (some (.dk kvs)),k=>(keyD k).map (hasD kvs)
 |_,_=>none
def dget:Option (Option S)->D->Option (Option D)
 |some (some (.od kvs)),.tup ds=>(keysD ds).map (getD' kvs)
 |some (some (.dk kvs)),k=>(keyD k).map (getD' kvs)
 |_,_=>none
def isDct:Option (Option S)->Bool
 |some (some (.od _))=>true
 |some (some (.dk _))=>true
 |_=>false
theorem dct_own {o:Option (Option S)}(h:isDct o=true):∃t,o=some (some t)/\t.own=true:=by
 unfold isDct at h
 split at h
 ·exact⟨_,rfl,rfl⟩
 ·exact⟨_,rfl,rfl⟩
 ·cases h
theorem key_at {K:PySem.W.Frag}{Hf H:Hp}{ds:List D}{ks:List Key}{y:V}(e:keysD ds=some ks)(sub:Same Hf H)(r:Rep K Hf (.tup ds) y):∃b,y=.ref b/\H b=some (.tup (ks.map kV)):=by
 obtain⟨b,xs,rfl,hb,hr⟩:=rep_tup.mp r
 rw[keysD_reps e hr] at hb
 exact⟨b,rfl,sub _ _ hb⟩
theorem dhas_get {K:PySem.W.Frag}{Hf H:Hp}{t:S}{k:D}{y:V}{b:Bool}{p:Addr}(e:dhas (some (some t)) k=some b)(sub:Same Hf H)(a:S.at K Hf H p t)(r:Rep K Hf k y):∃o,DGet H p y o/\o.isSome=b:=by
 unfold dhas at e
 split at e
 ·rename_i kvs ds he
  cases he
  obtain⟨ys,h1,h2⟩:=a
  obtain⟨ks,e1,e2⟩:=Option.map_eq_some_iff.mp e
  obtain⟨b',rfl,hb⟩:=key_at e1 sub r
  refine⟨_,DGet.t h1 hb,?_⟩
  rw[<-e2,<-valV_any,<-h2.any];rfl
 ·rename_i kvs k' he
  cases he
  obtain⟨ys,h1,h2⟩:=a
  obtain⟨ks,e1,e2⟩:=Option.map_eq_some_iff.mp e
  rw[keyD_rep e1 r]
  refine⟨_,DGet.k h1,?_⟩
  rw[<-e2,<-valV_any,<-h2.any];rfl
 ·cases e
theorem dget_get {K:PySem.W.Frag}{Hf H:Hp}{t:S}{k:D}{y:V}{o:Option D}{p:Addr}(e:dget (some (some t)) k=some o)(sub:Same Hf H)(a:S.at K Hf H p t)(r:Rep K Hf k y):∃ov,DGet H p y ov/\match o with
  |some d=>∃v,ov=some v/\Rep K Hf d v
  |none=>ov=none:=by
 cases t with
 |im d=>simp[dget] at e
 |xc x=>simp[dget] at e
 |fn x=>simp[dget] at e
 |ow ds=>simp[dget] at e
 |od kvs =>
  cases k with
  |tup ds =>
   obtain⟨ys,h1,h2⟩:=a
   obtain⟨ks,e1,e2⟩:=Option.map_eq_some_iff.mp e
   obtain⟨b',rfl,hb⟩:=key_at e1 sub r
   refine⟨_,DGet.t h1 hb,?_⟩
   cases o with
   |some d=>exact h2.get ks e2
   |none=>exact h2.none ks e2
  |non=>simp[dget] at e
  |bl _=>simp[dget] at e
  |int _=>simp[dget] at e
  |str _=>simp[dget] at e
  |lst _=>simp[dget] at e
 |dk kvs =>
  obtain⟨ys,h1,h2⟩:=a
  obtain⟨ks,e1,e2⟩:=Option.map_eq_some_iff.mp (show(keyD k).map (getD' kvs)=some o from e)
  rw[keyD_rep e1 r]
  refine⟨_,DGet.k h1,?_⟩
  cases o with
  |some d=>exact h2.get ks e2
  |none=>exact h2.none ks e2
def sDPut (i:Nat)(fk fv:DSt->M D)(sd:DSt):M O:=if isDct sd[i]? then((fv sd).bind fun v=>(fk sd).bind fun k=>match dput sd[i]? k v with
 |some t=>.ok (.nx (sd.set i (some t)))
 |none=>.bad) else .bad
theorem psd_dput (i:Nat){fk fv:DSt->M D}(hu:X.A.units+64<cLine)(hk:PEd X E key fk)(hv:PEd X E value fv)(hi:X.N[i]?=some x:=by rfl)(hvis:Vis X.env.scope x:=by first|exact Or.inl rfl|exact Or.inr (Or.inl rfl)|exact Or.inr (Or.inr rfl))
  (hd:(x==("__debug__" : Str))=false:=by decide) (hcd:(x==("__classdict__" : Str))=false:=by decide) (hs:swapsWith value (some (.Subscript (.Name x p1) key pos')) pos.line X.env=pure false:=by rfl) :
  PSd X E (.Assign [.Subscript (.Name x p1) key pos'] value pos) (sDPut i fk fv):=by
 obtain⟨tk,pk,qk⟩:=hk
 obtain⟨tv,pv,qv⟩:=hv
 refine⟨_,ps_dput (by lia) (pe_var hi hvis hd hcd) pk pv hs,fun H0 B Hf sd σ H D sr h=>?_⟩
 unfold sDPut at h
 split at h
 case isFalse=>exact h.elim
 case isTrue hdc =>
 obtain⟨t,et,ot⟩:=dct_own hdc
 obtain⟨p,z1,z2,z3,z4⟩:=sr.ow i t et ot
 refine qv H0 B Hf sd σ H _ sr (PoS.bind sr h fun dv v Hf1 H1 _ g1 sr1 rv h1=>?_)
 refine⟨_,z1,?_⟩
 refine qk H0 B Hf1 sd σ H1 _ sr1 (PoS.bind sr1 h1 fun dk y Hf2 H2 _ g2 sr2 ry h2=>?_)
 obtain⟨p',z1',_,_,z4'⟩:=sr2.ow i t et ot
 rw[z1] at z1'
 cases z1'
 have rv2:=Rep.mono g2.fz rv
 have nl:∀{κ:Type} {kvs:List (κ×DL.D)} {ys:List (κ×V)},RepKV X.K Hf2 kvs ys->kvs.length<=1000000->ys.length<sizeLine:=fun {κ kvs ys} r hl=>by
  have:=Paired.length r
  have h2:=sizeLine_eq
  lia
 rw[et] at h2
 split at h2
 ·rename_i u eu
  cases t with
  |im d=>cases ot
  |xc x=>cases ot
  |fn x=>cases ot
  |ow ds=>simp[dput] at eu
  |od kvs =>
   obtain⟨ys,a1,a2⟩:=z4'
   cases dk with
   |tup ds =>
    unfold dput at eu
    dsimp only at eu
    split at eu
    ·rename_i ks ek
     split at eu
     ·rename_i hl
      cases eu
      obtain⟨b,rfl,hb⟩:=key_at ek sr2.sub ry
      exact⟨p,_,rfl,DPut.t a1 hb (nl a2 hl),h2 _ Hf2 _ (Same.refl _) (sr2.change et ot z1 rfl ⟨_,upd_same,a2.put ks rv2⟩)⟩
     ·cases eu
    ·cases eu
   |non=>simp[dput] at eu
   |bl _=>simp[dput] at eu
   |int _=>simp[dput] at eu
   |str _=>simp[dput] at eu
   |lst _=>simp[dput] at eu
  |dk kvs =>
   obtain⟨ys,a1,a2⟩:=z4'
   have eu:(match keyD dk with
    |some k=>if kvs.length<=1000000 then some (S.dk (putD kvs k dv)) else none
    |none=>none)=some u:=eu
   split at eu
   ·rename_i ks ek
    split at eu
    ·rename_i hl
     cases eu
     rw[keyD_rep ek ry]
     exact⟨p,_,rfl,DPut.k a1 (nl a2 hl),h2 _ Hf2 _ (Same.refl _) (sr2.change et ot z1 rfl ⟨_,upd_same,a2.put ks rv2⟩)⟩
    ·cases eu
   ·cases eu
 ·exact h2.elim
def eDNotIn (i:Nat)(fk:DSt->M D)(sd:DSt):M D:=if isDct sd[i]? then((fk sd).bind fun k=>match dhas sd[i]? k with
 |some b=>.ok (.bl (!b))
 |none=>.bad) else .bad
theorem din_core {H0:Hp}{B:Addr->Prop}{Hf:Hp}{sd:DSt}{σ:L2.St}{H:Hp}{Q:VK}{i:Nat}{fk:DSt->M D}{tk:TE}{g:Bool->Bool}(qk:∀(H0:Hp) (B:Addr->Prop) (Hf:Hp) (sd:DSt) (σ:L2.St) (H:Hp) (Q:VK),SR X.K H0 B Hf sd σ H->Po X.K E (rV X.K) Hf H (fk sd) Q->tk σ H Q)(sr:SR X.K H0 B Hf sd σ H)(hdc:isDct sd[i]?=true)(h:Po X.K E (rV X.K) Hf H ((fk sd).bind fun k=>match dhas sd[i]? k with
   |some b=>.ok (.bl (g b))
   |none=>.bad) Q):tk σ H fun y H1=>∃v,σ[i]?=some (some v)/\∃a o,v=.ref a/\DGet H1 a y o/\Q (.bl (g o.isSome)) H1:=by
 obtain⟨t,et,ot⟩:=dct_own hdc
 refine qk H0 B Hf sd σ H _ sr (Po.bind h fun dk y Hf1 H1 _ g1 ry h1=>?_)
 obtain⟨p,z1,z2,z3,z4⟩:=(sr.gr g1).ow i t et ot
 rw[et] at h1
 split at h1
 ·rename_i b eb
  obtain⟨o,d1,d2⟩:=dhas_get eb g1.sub z4 ry
  refine⟨_,z1,p,o,rfl,d1,?_⟩
  rw[d2]
  exact Po.ret (R:=rV X.K) g1.sub h1 (rep_bl.mpr rfl)
 ·exact h1.elim
def eDGet (i:Nat)(fk:DSt->M D)(sd:DSt):M D:=if isDct sd[i]? then((fk sd).bind fun k=>match dget sd[i]? k with
 |some (some d)=>.ok d
 |_=>.bad) else .bad
theorem pd_dget (i:Nat){fk:DSt->M D}(hu:X.A.units+64<cLine)(hk:PEd X E key fk)(hsl:NoSl key)(hi:X.N[i]?=some x:=by rfl)(hvis:Vis X.env.scope x:=by first|exact Or.inl rfl|exact Or.inr (Or.inl rfl)|exact Or.inr (Or.inr rfl))
  (hd:(x==("__debug__" : Str))=false:=by decide) (hcd:(x==("__classdict__" : Str))=false:=by decide):PEd X E (.Subscript (.Name x p1) key pos) (eDGet i fk):=by
 obtain⟨tk,pk,qk⟩:=hk
 refine⟨_,pe_dget (by lia) (pe_var hi hvis hd hcd) pk hsl,fun H0 B Hf sd σ H Q sr h=>?_⟩
 unfold eDGet at h
 split at h
 case isFalse=>exact h.elim
 case isTrue hdc =>
 obtain⟨t,et,ot⟩:=dct_own hdc
 obtain⟨p,z1,_,_,_⟩:=sr.ow i t et ot
 refine⟨_,z1,?_⟩
 refine qk H0 B Hf sd σ H _ sr (Po.bind h fun dk y Hf1 H1 _ g1 ry h1=>?_)
 obtain⟨p',z1',z2,z3,z4⟩:=(sr.gr g1).ow i t et ot
 rw[z1] at z1'
 cases z1'
 rw[et] at h1
 split at h1
 ·rename_i d ed
  obtain⟨o,d1,v,rfl,d3⟩:=dget_get ed g1.sub z4 ry
  exact⟨p,v,rfl,d1,Po.ret (R:=rV X.K) g1.sub h1 d3⟩
 ·exact h1.elim
end
def tView (i:Nat)(f:DSt->M Bool)(sd:DSt):M Bool:=match f (frz i sd) with
 |.ok b=>.ok b
 |_=>.bad
section
variable {X:Cx} {E:XK} {e:Expr}
theorem frz_sr {K:PySem.W.Frag}{H0 Hf H:Hp}{B:Addr->Prop}{sd:DSt}{σ:L2.St}(sr:SR K H0 B Hf sd σ H)(i:Nat):∃Hf',Same Hf Hf'/\SR K H0 B Hf' (frz i sd) σ H:=by
 unfold frz
 split
 ·rename_i ds ei
  exact sr.freeze ei
 ·exact⟨Hf,Same.refl _,sr⟩
theorem ptd_view (i:Nat){f:DSt->M Bool}(h:PTd X E e f):PTd X E e (tView i f):=by
 obtain⟨t,p,q⟩:=h
 refine⟨t,p,fun H0 B Hf sd σ H Q sr h=>?_⟩
 obtain⟨Hf',e1,sr'⟩:=frz_sr sr i
 refine q H0 B Hf' _ σ H Q sr' ?_
 unfold tView at h
 cases ef:f (frz i sd) with
 |ok d =>
  rw[ef] at h
  exact fun v Hf2 H2 g r=>h v Hf H2 ⟨Same.refl _,sr.sub.trans g.all,g.all,fun _ _ z=>z⟩ r
 |ex x=>rw[ef] at h;exact h.elim
 |bad=>rw[ef] at h;exact h.elim
end
def clOf (cells:List (Str×Addr)):List (Str×NameKind)->List (Str×Addr)->List (Str×Addr)
 |[],acc=>acc
 |(n,k)::r,acc=>if k==NameKind.free then(match cells.lookup n with
  |some c=>clOf cells r ((n,c)::acc)
  |none=>clOf cells r acc) else clOf cells r acc
theorem clOf_mem (cells:List (Str×Addr)):∀(names:List (Str×NameKind)) (acc:List (Str×Addr)),(∀p∈acc,cells.lookup p.1=some p.2)->∀p∈clOf cells names acc,cells.lookup p.1=some p.2
 |[],acc,h=>h
 |(n,k)::r,acc,h=>by
  unfold clOf
  split
  ·split
   ·rename_i c hc
    refine clOf_mem cells r _ fun p hp=>?_
    rcases List.mem_cons.mp hp with rfl|hp
    ·exact hc
    ·exact h p hp
   ·exact clOf_mem cells r acc h
  ·exact clOf_mem cells r acc h
theorem clOf_keep (cells:List (Str×Addr)):∀(names:List (Str×NameKind)) (acc:List (Str×Addr)),∀p∈acc,p∈clOf cells names acc
 |[],acc,p,h=>h
 |(n,k)::r,acc,p,h=>by
  unfold clOf
  split
  ·split
   ·exact clOf_keep cells r _ p (List.mem_cons_of_mem _ h)
   ·exact clOf_keep cells r acc p h
  ·exact clOf_keep cells r acc p h
theorem clOf_has (cells:List (Str×Addr)):∀(names:List (Str×NameKind)) (acc:List (Str×Addr)) (n:Str) (c:Addr),(n,NameKind.free)∈names->cells.lookup n=some c->(n,c)∈clOf cells names acc
 |[],_,_,_,h,_=>by cases h
 |(m,k)::r,acc,n,c,h,hc=>by
  unfold clOf
  rcases List.mem_cons.mp h with h|h
  ·cases h
   rw[if_pos (by decide),hc]
   exact clOf_keep cells r _ _ List.mem_cons_self
  ·split
   ·split
    ·exact clOf_has cells r _ n c h hc
    ·exact clOf_has cells r _ n c h hc
   ·exact clOf_has cells r _ n c h hc
theorem lookup_mem {β:Type}:∀{l:List (Str×β)} {n:Str} {c:β},l.lookup n=some c->(n,c)∈l:=fun h=>PySem.mem_of_lookup h
theorem lookup_some {β:Type}:∀{l:List (Str×β)} {n:Str} {c:β},(n,c)∈l->∃d,l.lookup n=some d
 |[],_,_,h=>by cases h
 |(m,d)::r,n,c,h=>by
  rw[List.lookup_cons]
  by_cases e:n=m
  ·subst e;exact⟨d,by simp⟩
  ·have e':(n==m)=false:=beq_eq_false_iff_ne.mpr e
   rw[e']
   rcases List.mem_cons.mp h with h|h
   ·cases h;exact absurd rfl e
   ·exact lookup_some h
theorem closure_eq {scope:Scope}{env:Env}(h:∀y∈scope.names,y.2=.free->∃c,env.cells.lookup y.1=some c):closureFor scope env=pure (clOf env.cells scope.names []):=by
 have key:∀(names:List (Str×NameKind)) (acc:List (Str×Addr)),(∀y∈names,y.2=.free->∃c,env.cells.lookup y.1=some c) ->
   (forIn names acc fun(x:Str×NameKind) (cs:List (Str×Addr))=>(do
    if x.2==.free then
     let c <-cellOf env x.1
     pure (ForInStep.yield ((x.1,c)::cs))
    else pure (ForInStep.yield cs):Sem _))=pure (clOf env.cells names acc):=by
  intro names
  induction names with
  |nil=>intro acc _;rfl
  |cons y r ih =>
   intro acc hy
   obtain⟨n,k⟩:=y
   rw[List.forIn_cons]
   unfold clOf
   by_cases hk:(k==NameKind.free)=true
   ·obtain⟨c,hc⟩:=hy (n,k) List.mem_cons_self (by simpa using hk)
    have e1:cellOf env n=pure c:=by unfold cellOf;rw[hc]
    simp only[hk,if_true,e1,hc,pure_bind]
    exact ih _ fun z hz=>hy z (List.mem_cons_of_mem _ hz)
   ·simp only[hk,Bool.false_eq_true,if_false,pure_bind]
    exact ih _ fun z hz=>hy z (List.mem_cons_of_mem _ hz)
 have e:=key scope.names [] h
 unfold closureFor
 simp only[bind_pure]
 exact e
theorem capN {X:Cx}{Nc:List Str}{n0:Nat}{caps:List Nat}{scope sc:Scope}(hsc:X.env.scope=sc)(hkf:sc.kind=.function)(hcell:∀y∈scope.names,y.2≠.cell)(hfree:∀y∈scope.names,y.2=.free->sc.names.lookup y.1=some .cell)(hcl:∀y∈scope.names,y.2=.free->∃c,X.env.cells.lookup y.1=some c)(hl:Nc.length=n0+caps.length)(hcap:∀(i j:Nat) (x:Str),Nc[n0+i]?=some x->caps[i]?=some j->X.N[j]?=some x/\scope.names.lookup x=some .free):CapOk X Nc n0 caps scope (clOf X.env.cells scope.names []):=by
 have frees:∀(l:List (Str×NameKind)) (y:Str),(∀p∈l,p.2≠.cell)->(∀p∈l,p.2=.free->sc.names.lookup p.1=some .cell) ->
   ((l.map fun(n,k)=>if(k==NameKind.free&&X.env.scope.kind==.function&&X.env.kindOf n==some .cell) then(n,NameKind.cell) else(n,k)).lookup y=some .cell\/(l.map fun(n,k)=>if(k==NameKind.free&&X.env.scope.kind==.function&&X.env.kindOf n==some .cell) then(n,NameKind.cell) else(n,k)).lookup y=some .free)->(y,NameKind.free)∈l:=by
  intro l y
  induction l with
  |nil=>intro _ _ e;rcases e with e|e<;>cases e
  |cons p r ih =>
   intro h1 h2 e
   obtain⟨n,k⟩:=p
   have c1:=h1 (n,k) List.mem_cons_self
   rw[List.map_cons,List.lookup_cons] at e
   have hfst:(if(k==NameKind.free&&X.env.scope.kind==.function&&X.env.kindOf n==some .cell) then(n,NameKind.cell) else(n,k)).1=n:=by split<;>rfl
   by_cases ey:y=n
   ·subst ey
    simp only[hfst,beq_self_eq_true] at e
    by_cases hk:k=.free
    ·subst hk;exact List.mem_cons_self
    ·have hk':(k==NameKind.free)=false:=beq_eq_false_iff_ne.mpr hk
     simp only[hk',Bool.false_and,Bool.false_eq_true,if_false] at e
     rcases e with e|e
     ·cases e;exact absurd rfl c1
     ·cases e;exact absurd rfl hk
   ·have ey':(y==n)=false:=beq_eq_false_iff_ne.mpr ey
    simp only[hfst,ey'] at e
    exact List.mem_cons_of_mem _ (ih (fun p hp=>h1 p (List.mem_cons_of_mem _ hp)) (fun p hp=>h2 p (List.mem_cons_of_mem _ hp)) e)
 refine⟨fun y c e=>clOf_mem _ _ [] (fun p hp=>by cases hp) _ (lookup_mem e),fun y e=>?_,fun i j x e1 e2=>?_,hl⟩
 ·have hm:=frees scope.names y hcell hfree e
  obtain⟨c,hc⟩:=hcl _ hm rfl
  obtain⟨d,hd⟩:=lookup_some (clOf_has X.env.cells scope.names [] y c hm hc)
  exact⟨d,hd⟩
 ·obtain⟨a1,a2⟩:=hcap i j x e1 e2
  have a3:=hfree _ (lookup_mem a2) rfl
  refine⟨a1,by rw[hsc];exact a3,?_⟩
  have rl:∀(l:List (Str×NameKind)),l.lookup x=some .free->(l.map fun(n,k)=>if(k==NameKind.free&&X.env.scope.kind==.function&&X.env.kindOf n==some .cell) then(n,NameKind.cell) else(n,k)).lookup x=some .cell:=by
   intro l
   induction l with
   |nil=>intro e;cases e
   |cons p r ih =>
    intro e
    obtain⟨n,k⟩:=p
    rw[List.map_cons,List.lookup_cons]
    rw[List.lookup_cons] at e
    have hfst:(if(k==NameKind.free&&X.env.scope.kind==.function&&X.env.kindOf n==some .cell) then(n,NameKind.cell) else(n,k)).1=n:=by split<;>rfl
    by_cases ex:x=n
    ·subst ex
     simp only[beq_self_eq_true] at e
     cases e
     have c3:X.env.kindOf x=some .cell:=by show X.env.scope.names.lookup x=_;rw[hsc];exact a3
     have c4:X.env.scope.kind=.function:=by rw[hsc];exact hkf
     simp only[hfst,beq_self_eq_true,c3,c4,Bool.and_true,if_true]
    ·have ex':(x==n)=false:=beq_eq_false_iff_ne.mpr ex
     simp only[ex'] at e
     simp only[hfst,ex']
     exact ih e
  exact rl _ a2
end DL
set_option maxHeartbeats 4000000
namespace DL
open PySem PySem.Spec PyProof.Rows L2
def capFB (sc names:List (Str×NameKind)):Bool:=names.all fun y=>!(decide (y.2=NameKind.free))||decide (sc.lookup y.1=some NameKind.cell)
theorem capF {sc scope:Scope}(h:capFB sc.names scope.names=true):∀y∈scope.names,y.2=.free->sc.names.lookup y.1=some .cell:=fun y hy hf=>by
 have:=List.all_eq_true.mp h y hy
 rw[Bool.or_eq_true] at this
 rcases this with z|z
 ·rw[decide_eq_true hf] at z;cases z
 ·exact of_decide_eq_true z
def capB (N:List Str)(names:List (Str×NameKind)):List Str->List Nat->Bool
 |x::xs,j::js=>decide (N[j]?=some x)&&decide (names.lookup x=some NameKind.free)&&capB N names xs js
 |_,_=>true
theorem capB_get {N:List Str}{names:List (Str×NameKind)}:∀{xs:List Str} {js:List Nat},capB N names xs js=true->∀(i j:Nat) (x:Str),xs[i]?=some x->js[i]?=some j->N[j]?=some x/\names.lookup x=some .free
 |[],_,_,i,_,_,e,_=>by simp at e
 |_::_,[],_,i,_,_,_,e=>by simp at e
 |x::xs,j::js,h,0,j',x',e1,e2=>by
  unfold capB at h
  rw[Bool.and_eq_true,Bool.and_eq_true] at h
  simp at e1 e2
  subst e1 e2
  exact⟨of_decide_eq_true h.1.1,of_decide_eq_true h.1.2⟩
 |x::xs,j::js,h,i+1,j',x',e1,e2=>by
  unfold capB at h
  rw[Bool.and_eq_true] at h
  exact capB_get h.2 i j' x' (by simpa using e1) (by simpa using e2)
theorem capB_ok {X:Cx}{N:List Str}{Nc:List Str}{n0:Nat}{caps:List Nat}{scope:Scope}(hN:X.N=N)(h:capB N scope.names (Nc.drop n0) caps=true) :
  ∀(i j:Nat) (x:Str),Nc[n0+i]?=some x->caps[i]?=some j->X.N[j]?=some x/\scope.names.lookup x=some .free:=fun i j x e1 e2=>by
 rw[hN]
 exact capB_get h i j x (by rw[List.getElem?_drop];exact e1) e2
section
variable {X:Cx} {E:XK} {pos p p1 p2:Pos} {a e:Expr} {x:Str}
def sRetF (f:DSt->M (List D))(sd:DSt):M O:=(f sd).bind fun ds=>.ok (.rt (.ow ds))
theorem psd_retF {f:DSt->M (List D)}(h:PFd X E e f):PSd X E (.Return (some e) pos) (sRetF f):=by
 obtain⟨t,p,q⟩:=h
 refine⟨_,ps_ret p,fun H0 B Hf sd σ H D sr h=>?_⟩
 refine q H0 B Hf sd σ H _ sr (PoS.bindF sr h fun ds p xs Hf1 H1 _ g1 sr1 e1 e2 e3 e4 h1=>?_)
 exact h1 _ Hf1 H1 (Same.refl _) sr1.fin ⟨p,rfl,sr.all.free e1,e2,xs,e3,e4⟩
def UnD (X:Cx)(E:XK)(f:Value->Sem Value)(g:D->M D):Prop :=
 ∃r,UnR X f r/\∀(Hf H:Hp) (x:V) (dx:D) (Q:VK),Same Hf H->Rep X.K Hf dx x->Po X.K E (rV X.K) Hf H (g dx) Q->r x H Q
def gNeg:D->M D
 |.int i=>.ok (.int (-i))
 |_=>.bad
theorem ud_neg:UnD X E (unaryOp .USub) gNeg:=by
 refine⟨_,un_neg,fun Hf H x dx Q e rx q=>?_⟩
 unfold gNeg at q
 split at q
 ·exact⟨_,rep_int.mp rx,Po.ret e q (rep_int.mpr rfl)⟩
 ·exact q.elim
def eUn (g:D->M D)(f:DSt->M D)(sd:DSt):M D:=(f sd).bind g
theorem pd_un {op:UnaryOp}{g:D->M D}{f:DSt->M D}(ho:UnD X E (unaryOp op) g)(h:PEd X E a f):PEd X E (.UnaryOp op a pos) (eUn g f):=by
 obtain⟨r,hr,qr⟩:=ho
 obtain⟨t,p,q⟩:=h
 refine⟨_,pe_un hr p,fun H0 B Hf sd σ H Q sr h=>?_⟩
 exact q H0 B Hf sd σ H _ sr (Po.bind h fun d v Hf1 H1 _ g1 rv h1=>qr Hf1 H1 v d Q g1.sub rv h1)
end
section
variable {prog:Program} {w:World} {A:Around} {E:Value->Shared->Prop} {s:Shared}
end
theorem Vals.rev:∀{xs:List V} {us:List Value},Vals xs us->Vals xs.reverse us.reverse
 |_,_,.nil=>.nil
 |_,_,.cons r t=>by
  rw[List.reverse_cons,List.reverse_cons]
  exact(Vals.rev t).append (.cons r .nil)
theorem Reps.rev {K:PySem.W.Frag}{H:Hp}:∀{ds:List D} {xs:List V},Reps K H ds xs->Reps K H ds.reverse xs.reverse
 |[],xs,h=>by rw[reps_nil.mp h];exact Reps.nil
 |d::ds,xs,h=>by
  obtain⟨x,r,rfl,h1,h2⟩:=reps_cons.mp h
  rw[List.reverse_cons,List.reverse_cons]
  exact(Reps.rev h2).append (Reps.cons h1 Reps.nil)
section
variable {X:Cx} {E:XK} {pos p2 p3 p4:Pos} {e:Expr}
end
end DL
set_option maxHeartbeats 4000000
namespace DL
open PySem PySem.Spec PyProof.Rows L2
section
variable {X:Cx} {E:XK} {pos:Pos} {a b c:Expr}
def iRange2 (fs:DSt->M (List D))(sd:DSt):M (List D):=(fs sd).bind fun ds=>match ds with
 |[.int i,.int j]=>if(-1000000<=i/\i<=1000000)/\-1000000<=j/\j<=1000000 then .ok (rangeD i (j - i).toNat) else .bad
 |_=>.bad
theorem pid_range2 {tg:Expr}{p:Pos}{fs:DSt->M (List D)} (hg:Gl X "range") (hm:X.mg "range" = none) (h:PAd X E [a,b] fs) (hs:starEach [a,b] X.env=[(false,eval a X.env),(false,eval b X.env)]:=by rfl) (hs2:starEach [b] X.env=[(false,eval b X.env)]:=by rfl) :
  PId X E tg (.Call (.Name "range" p) [a,b] [] pos) (iRange2 fs):=by
 obtain⟨t,pt,q⟩:=h
 refine⟨_,pi_range2 hg hm pt hs hs2,fun H0 B Hf sd σ H R sr h=>?_⟩
 refine q H0 B Hf sd σ H _ sr (Po.bind h fun ds vs Hf1 H1 _ g1 rs h1=>?_)
 split at h1
 ·split at h1
  ·rename_i hj
   obtain⟨v,w',rfl,rv,rw'⟩:=reps2 rs
   rw[rep_int.mp rv,rep_int.mp rw']
   exact⟨_,_,rfl,⟨by lia,by lia,by lia,by lia⟩,Po.ret (R:=ItOk X.K) g1.sub h1 (itr_ok _ _)⟩
  ·exact h1.elim
 ·exact h1.elim
end
end DL
set_option maxHeartbeats 4000000
set_option linter.all false
namespace DL
open PySem PySem.Spec PyProof.Rows L2
def Nt (h:Heap)(a:Addr)(c:Value)(dx:Option Addr)(T:Addr)(fl:Value):Prop :=
 ∃oe vs,h.get? a=some oe/\oe.cls=c/\oe.dict=dx/\oe.data=.fields vs/\1<vs.size /\
  ((T=a/\vs[1]?=some .none)\/(T≠a/\vs[1]?=some (.ref T)/\∃oT ts,h.get? T=some oT/\oT.data=.fields ts/\ts[3]?=some fl))
structure Ch (fr:List Addr) (a T:Addr) (h h':Heap):Prop where
 keep:∀b o,b≠a->b≠T->b ∉ fr->h.get? b=some o->h'.get? b=some o
 slot:∀b o,b≠a->b≠T->h.get? b=some o->∃sl,h'.get? b=some { o with slots:=sl }
section
variable {M:Model} {A:Around} {E:Value->Shared->Prop} {s:Shared}
theorem entry_at {base:Heap}{env:Env}{outer:List Env}{L a:Addr}{oe:Obj}{vs:Array Value}{head:Value}{hadNext:Bool}{Q:Unit->Shared->Prop}(hA:A.frames=some (env::outer))(hF:s.heap.FunFrames base (env::outer))(hL:env.frame=some L)(ho:s.heap.get? a=some oe)(hv:oe.data=.fields vs)(hz:1<vs.size)(k:∀h' T,s.heap.objs.size<=T->Nt h' a oe.cls oe.dict T (rawInt L)->T≠a->Ch (frs (env::outer)) a a s.heap h'->Q () { s with heap:=h' }) :
  wpAny M A (do let p <-frameOf env;let pl <-entryPlaceOf L hadNext;let b <-EntryCells.newEntry head p .none (rawInt L) .none pl;setField (.ref a) 1 b) Q E s:=by
 have na:a ∉ (env::outer).filterMap (·.frame):=fun z=>by
  obtain⟨_,o,q,nf⟩:=hF.mem z
  rw[ho] at q;cases q;exact nf vs hv
 refine wpAny_bind (wpAny_frameOf_fun hA hF hL fun g sl=>?_)
 refine wpAny_bind (wpAny_entryPlaceOf fun pl hp=>?_)
 unfold EntryCells.newEntry newFields
 refine wpAny_bind (wpAny_newObj_type ?_ (hp.sizeOk5 _ _ _ _ _))
 have ga:g.get? a=some oe:=(sl.2.1 a na).trans ho
 have nT:g.objs.size≠a:=Nat.ne_of_gt (Heap.lt_size ga)
 refine wpAny_setField (Heap.get?_push_of_some _ ga) hv hz ?_
 have zs:s.heap.objs.size<=g.objs.size:=by
  have:=sl.1
  lia
 have da:=Obj.data_mapFields hv (·.setIfInBounds 1 (Value.ref g.objs.size))
 refine k _ g.objs.size zs ⟨_,_,Heap.get?_update_self _ (Heap.get?_push_of_some _ ga) (Obj.isFreed_of_fields da),Obj.cls_mapFields _ _,?_,da,by simpa using hz,.inr ⟨nT,by simp[hz],_,_,(Heap.get?_update_other _ _ (Ne.symm nT)).trans (Heap.get?_push_size g rfl),rfl,?_⟩⟩ nT ⟨fun b o n1 n2 nf q=>?_,fun b o n1 n2 q=>?_⟩
 ·obtain⟨c,d,dt,sls⟩:=oe
  cases dt<;>first|rfl|cases hv
 ·first|(simp;done)|(rcases hp with rfl|⟨_,_,_,_,_,_,_,rfl⟩<;>simp)
 ·rw[Heap.get?_update_other _ _ (Ne.symm n1)]
  exact Heap.get?_push_of_some _ ((sl.2.1 b nf).trans q)
 ·obtain⟨x,e⟩:=sl.2.2 b o q
  exact⟨x,by rw[Heap.get?_update_other _ _ (Ne.symm n1)];exact Heap.get?_push_of_some _ e⟩
theorem Ch.trans {fr:List Addr}{a T T' U:Addr}{h h1 h2:Heap}(x:Ch fr a T h h1)(y:Ch fr a T' h1 h2)(q:∀b o,b≠a->b≠U->h.get? b=some o->b≠T/\b≠T'):Ch fr a U h h2 :=
 ⟨fun b o n1 n2 nf e=>y.keep b o n1 (q b o n1 n2 e).2 nf (x.keep b o n1 (q b o n1 n2 e).1 nf e),fun b o n1 n2 e=>by
  obtain⟨sl,e1⟩:=x.slot b o n1 (q b o n1 n2 e).1 e
  obtain⟨sl',e2⟩:=y.slot b _ n1 (q b o n1 n2 e).2 e1
  exact⟨sl',e2⟩⟩
end
end DL
set_option maxHeartbeats 4000000
set_option linter.all false
namespace DL
open PySem PySem.Spec PyProof.Rows L2
theorem hok_ch {P:Program}{w:World}{H:Hp}{h h':Heap}{fr:List Addr}{a T:Addr}(x:HOk P w H h)(c:Ch fr a T h h')(na:H a=none)(nT:H T=none)(nf:∀b∈fr,H b=none):HOk P w H h':=fun b u e=>by
 have ne:∀d v,H d=some v->d≠a/\d≠T/\d ∉ fr:=fun d v q=>⟨fun z=>(by rw[z,na] at q;cases q),fun z=>(by rw[z,nT] at q;cases q),fun z=>(by rw[nf d z] at q;cases q)⟩
 refine(x b u e).stay (fun d v hd q=>?_) (fun _ q=>q) (fun _ _ q=>q) fun _ _ _ q=>q
 have z:d≠a/\d≠T/\d ∉ fr:=by
  rcases hd with rfl|hd
  ·exact ne _ _ e
  ·exact ne _ _ hd
 exact c.keep d v z.1 z.2.1 z.2.2 q
def CX1 (P:Program)(w:World):CXT:=fun outer H s E e s'=>∃a H' c dx T,e=.ref a/\s'.os=s.os/\AllBare s'.gens/\Un (frs outer) [] H H' s.heap s'.heap/\HOk P w H' s'.heap/\Nt s'.heap a c dx T .none /\
 H' a=none/\H' T=none/\s.heap.objs.size<=a/\s.heap.objs.size<=T/\E c dx H'
def Out (X:Cx)(E:XK):Prop:=∀(pins:List (Addr×Obj)) (σ:L2.St) (H:Hp) (s:Shared) (a:Addr) (c:Value) (dx:Option Addr) (T:Addr),Inv X pins σ H s->Nt s.heap a c dx T .none->H a=none->H T=none ->
 X.s₀.heap.objs.size<=a->X.s₀.heap.objs.size<=T->E c dx H->X.xe (.ref a) s
theorem Out.passes {X:Cx}{E:XK}(o:Out X E):Passes (CX1 X.prog X.w) X E:=by
 rintro pins σ H s e s' I ⟨a,H',c,dx,T,rfl,os,bare,un,hok,hn,na,nT,za,zT,q⟩
 exact o pins σ H' s' a c dx T (I.call' os un hok bare (fun b z=>absurd z (by simp))) hn na nT (Nat.le_trans I.sz za) (Nat.le_trans I.sz zT) q
def PoC (K:PySem.W.Frag)(Hf H:Hp)(r:M S)(Q:VK)(E:XK):Prop:=match r with
 |.ok s=>∀v Hf' H',Gr Hf H Hf' H'->RS K H Hf' H' s v->Q v H'
 |.ex x=>∀c dx Hf' H',Gr Hf H Hf' H'->RepX K Hf' H' x c dx->E c dx H'
 |.bad=>False
theorem PoC.bind {K:PySem.W.Frag}{E:XK}{Hf H:Hp}{r:M S}{Q:VK}(h:Po K E (rV K) Hf H (r.bind S.toD) Q):PoC K Hf H r Q E:=by
 cases r with
 |bad=>exact h
 |ex x=>exact h
 |ok s =>
  cases s with
  |im d=>exact fun v Hf' H' g rv=>h v Hf' H' g rv
  |ow es =>
   rintro v Hf' H' g2 ⟨p,rfl,e1,e2,xs,e3,e4⟩
   refine h _ (upd Hf' p (.lst xs)) H' ⟨g2.fz.trans (same_upd e2 _),fun b u q=>?_,g2.all,fun a h1 h2=>?_⟩ (rep_lst.mpr ⟨p,xs,rfl,SqL.of upd_same,e4.mono (same_upd e2 _)⟩)
   ·by_cases hb:b=p
    ·subst hb;rw[upd_same] at q;rw[e3];exact q
    ·rw[upd_ne hb] at q;exact g2.sub b u q
   ·have:a≠p:=fun z=>h1.nn (z▸e1)
    rw[upd_ne this];exact g2.ban a h1 h2
  |od kvs=>exact h.elim
  |dk kvs=>exact h.elim
  |xc x=>exact h.elim
  |fn x=>exact h.elim
section
variable {X:Cx} {E:XK} {pos:Pos} {a:Expr}
end
end DL
set_option maxHeartbeats 4000000
set_option linter.all false
set_option maxRecDepth 100000
namespace DL
open PySem PySem.Spec PySem.Calls PySem.Builtin PySem.Builtin.ObjectAttr PyProof.Rows L2 PySem.W
def exMro:List Value:=[.type "ValueError", .type "Exception", .type "BaseException", .type "object"]
def exOnly:List Value->Bool
 |[]=>false
 |.ref _::r=>exOnly r
 |l=>l==exMro
structure XCls (K:Frag) (C:Addr):Prop where
 sa:findIn K (.ref C) "__setattr__" = some (some (.builtin "object.__setattr__"))
 ga:findIn K (.ref C) "__getattribute__" = some (some (.builtin "BaseException.__getattribute__"))
 gn:findIn K (.ref C) "__getattr__" = some none
 hd:hasDictIn K C=true
 ov:(clsIn K C).any (fun cd=>exOnly cd.mro)=true
section
variable {prog:Program} {w:World} {A:Around} {s:Shared} {K:Frag} {x C:Addr} {name:Str} {v:Value} {R:Result->Shared->Prop}
end
end DL
set_option maxHeartbeats 4000000
set_option linter.all false
set_option maxRecDepth 100000
namespace DL
open PySem PySem.Spec PySem.Calls PySem.Builtin PySem.Builtin.ObjectAttr PyProof.Rows L2 PySem.W
section
variable {X:Cx} {pins:List (Addr×Obj)} {σ:L2.St} {H:Hp} {s:Shared} {a C:Addr} {f:Str} {y:V} {u:Value} {A:Around} {E:Value->Shared->Prop}
end
section
variable {X:Cx} {o value:Expr} {ta tv:TE} {f:Str} {pos pos':Pos}
end
end DL
set_option maxHeartbeats 4000000
set_option linter.all false
set_option maxRecDepth 100000
namespace DL
open PySem PySem.Spec PySem.Calls PySem.Builtin PySem.Builtin.ObjectAttr PyProof.Rows L2 PySem.W
structure XC (K:Frag) (C fI:Addr):Prop where
 at_:∃bm N nm qn bs hdct sn sub ab col dd k0 k1 k2 k3 k5,∀h:Heap,K.In h->h.get? C=some (excClassObj nm qn C N bs bm hdct sn sub ab col dd k0 k1 k2 k3 k5 "ValueError.__new__")/\OwnTail h exMro bm /\
  ∃mN,h.Ns N mN/\mN "__init__" = some (.ref fI)
section
variable {prog:Program} {w:World} {A:Around} {E:Value->Shared->Prop} {h:Heap} {g:Array GenState} {d:Drawn} {t:Nat} {os:OsState}
variable {nm q:Str} {C N:Addr} {bs bm bmB:List Value} {hdct:Bool} {sn:List Str} {sub:List Value} {ab:Bool} {col:Option Bool} {dd:Option Addr} {k0 k1 k2 k3 k5:Option Value} {B newId initId:String}
end
section
variable {X:Cx} {k:Nat} {fI C:Addr} {fd:FuncData} {self p f x:Str} {np pos cpos:Pos} {e:Expr} {es:List Expr} {t:TA}
end
end DL
set_option maxHeartbeats 4000000
set_option linter.all false
set_option maxRecDepth 100000
namespace DL
open PySem PySem.Spec PySem.Calls PySem.Builtin PySem.Builtin.ObjectAttr PyProof.Rows L2 PySem.W
section
variable {M:Model} {A:Around} {E:Value->Shared->Prop} {s:Shared} {env:Env}
end
section
variable {X:Cx} {E:XK} {k:Nat} {fI C:Addr} {fd:FuncData} {self p f x:Str} {np pos cpos:Pos} {e:Expr} {es:List Expr} {t:TA}
end
end DL
set_option maxHeartbeats 4000000
set_option linter.all false
set_option maxRecDepth 100000
namespace DL
open PySem PySem.Spec PySem.Calls PySem.Builtin PySem.Builtin.ObjectAttr PyProof.Rows L2 PySem.W
section
variable {X:Cx} {pins:List (Addr×Obj)} {σ:L2.St} {H:Hp} {s:Shared} {h':Heap} {a T C:Addr} {e:Value}
structure Fresh (X:Cx) (pins:List (Addr×Obj)) (b:Addr):Prop where
 lo:X.s₀.heap.objs.size<=b
 nl:b≠X.env.locals
 nc:∀x c,X.env.cells.lookup x=some c->c≠b
 np:∀p∈X.pn++pins,p.1≠b
theorem fresh_of (I:Inv X pins σ H s){b:Addr}(h:s.heap.objs.size<=b):Fresh X pins b where
 lo:=Nat.le_trans I.sz h
 nl:=Nat.ne_of_gt (Nat.lt_of_lt_of_le I.lt h)
 nc:=fun x c q=>by
  obtain⟨v,o,ho,_⟩:=I.cell x c q
  exact Nat.ne_of_lt (Nat.lt_of_lt_of_le (Heap.lt_size ho) h)
 np:=fun p hp=>Nat.ne_of_lt (Nat.lt_of_lt_of_le (Heap.lt_size (I.pin p hp).1) h)
theorem inv_ch (I:Inv X pins σ H s)(c:Ch (frs X.stack) a T s.heap h')(na:H a=none)(nT:H T=none)(fa:Fresh X pins a)(fT:Fresh X pins T):Inv X pins σ H { s with heap:=h' }:=by
 refine I.call (h':=h') (g':=s.gens) (d':=s.drawn) (t':=s.toks) (ch:=[a,T]) ⟨fun b o q n nf nx=>?_,fun b o q n bf nx=>?_,fun b o q n nx=>n,fun b o q nx=>?_,fun b xs q=>q,fun b o u q=>q,fun _ _ _ _ q=>q⟩ (hok_ch I.hok c na nT I.stkFree) I.bare fun b hb=>?_
 ·exact c.keep b o (fun z=>nx (by simp[z])) (fun z=>nx (by simp[z])) nf q
 ·exact c.slot b o (fun z=>nx (by simp[z])) (fun z=>nx (by simp[z])) q
 ·obtain⟨sl,z⟩:=c.slot b o (fun z=>nx (by simp[z])) (fun z=>nx (by simp[z])) q
  exact⟨_,z⟩
 ·rcases List.mem_cons.mp hb with rfl|hb
  ·exact⟨.inr fa.lo,fa.nl,fa.nc,fa.np⟩
  ·have:b=T:=by simpa using hb
   subst this
   exact⟨.inr fT.lo,fT.nl,fT.nc,fT.np⟩
end
theorem SR.drop {K:Frag}{H0 Hf H:Hp}{B:Addr->Prop}{sd:DSt}{σ:L2.St}(r:SR K H0 B Hf sd σ H)(i:Nat):SR K H0 B Hf (sd.set i none) (σ.set i none) H:=by
 have bk:∀{j:Nat} {t:S},(sd.set i none)[j]?=some (some t)->i≠j/\sd[j]?=some (some t):=fun {j t} q=>by
  by_cases hj:i=j
  ·subst hj
   have hlt:i<sd.length:=by
    have:=(List.getElem?_eq_some_iff.mp q).1;simpa using this
   rw[List.getElem?_set_self hlt] at q
   cases q
  ·rw[List.getElem?_set_ne hj] at q
   exact⟨hj,q⟩
 refine⟨r.sub,r.all,r.ban,r.bt,by rw[List.length_set,List.length_set];exact r.len,fun j t q z=>?_,fun j t q z=>?_,fun j k t u p hjk q1 o1 q2 o2 q3 q4=>?_⟩
 ·rw[List.getElem?_set_ne (bk q).1];exact r.imS j t (bk q).2 z
 ·rw[List.getElem?_set_ne (bk q).1];exact r.ow j t (bk q).2 z
 ·rw[List.getElem?_set_ne (bk q1).1] at q3
  rw[List.getElem?_set_ne (bk q2).1] at q4
  exact r.sep j k t u p hjk (bk q1).2 o1 (bk q2).2 o2 q3 q4
structure Hits (K:Frag) (C D:Addr):Prop where
 sub:subIn K (.ref C) (.ref D)=some true
 exc:subIn K (.ref D) (.type "BaseException")=some true
 ty:typeIn K (.ref D)=some (.type "type")
 tt:instIn K (.ref D) (.type "type")=some true
 nt:instIn K (.ref D) (.type "tuple")=some false
end DL
set_option maxHeartbeats 4000000
set_option linter.all false
set_option maxRecDepth 100000
namespace DL
open PySem PySem.Spec PySem.Calls PySem.Builtin PySem.Builtin.ObjectAttr PyProof.Rows L2 PySem.W
section
variable {X:Cx} {E:XK} {a:Expr}
end
end DL
set_option maxHeartbeats 4000000
set_option linter.all false
set_option maxRecDepth 100000
namespace DL
open PySem PySem.Spec PySem.Calls PySem.Builtin PySem.Builtin.ObjectAttr PyProof.Rows L2 PySem.W
section
variable {prog:Program} {w:World} {A:Around} {E:Value->Shared->Prop} {s:Shared} {K:Frag} {x C:Addr} {ox:Obj} {od:Option Obj} {name:Str} {tk:Tok} {v:Value} {R:Result->Shared->Prop}
structure XKit (K:Frag) (C:Addr):Prop where
 ha:findIn K (.ref C) "__class__" = some (some (.builtin "object.__class__"))
 hn:specialIn K (.builtin "object.__class__") "__get__" = some (some (.builtin "getset_descriptor.__get__"))
 ht:takesIn K (.builtin "object.__class__")=some true
 hm:mroIn K C (.type "object")=some true
end
end DL
set_option maxHeartbeats 4000000
set_option linter.all false
set_option maxRecDepth 100000
namespace DL
open PySem PySem.Spec PySem.Calls PySem.Builtin PySem.Builtin.ObjectAttr PyProof.Rows L2 PySem.W
section
variable {X:Cx} {E:XK} {pos p p2 p3:Pos} {vn cn f:Str}
structure XKnow (K:Frag) (y:Str) (C:Addr):Prop where
 at_:nsIn K mainGlobals y=some (some (.ref C))
 cl:XCls K C
 kt:XKit K C
end
section
variable {X:Cx} {E:XK} {pos p p2:Pos} {vn:Str}
end
end DL
set_option maxHeartbeats 4000000
set_option linter.all false
set_option maxRecDepth 100000
namespace DL
open PySem PySem.Spec PyProof.Rows L2
def ItK (t:Bool)(h:Heap)(i l:Addr)(k:Nat):Prop:=∃o,h.get? i=some o/\o.cls=.type (if t then "tuple_iterator" else "list_iterator")/\o.data=.fields #[.ref l,.int k 0]
def SqK (t:Bool)(h:Heap)(l:Addr)(xs:Array Value):Prop:=∃o,h.get? l=some o/\o.cls=.type (if t then "tuple" else "list")/\∃n,o.data=.seq xs n
theorem ItK.at {t:Bool}{h h':Heap}{i l:Addr}{k:Nat}(x:ItK t h i l k)(q:∀o,h.get? i=some o->h'.get? i=some o):ItK t h' i l k:=let ⟨o,e,r⟩:=x;⟨o,q o e,r⟩
theorem SqK.at {t:Bool}{h h':Heap}{l:Addr}{xs:Array Value}(x:SqK t h l xs)(q:∀o,h.get? l=some o->h'.get? l=some o):SqK t h' l xs:=let ⟨o,e,r⟩:=x;⟨o,q o e,r⟩
section
variable {prog:Program} {w:World} {A:Around} {E:Value->Shared->Prop} {s:Shared}
end
def SqG (t:Bool)(K:PySem.W.Frag)(H:Hp)(a:Addr)(xs:List V):Prop:=if t=true then SqT K H a xs else SqL K H a xs
theorem inv_sqg {X:Cx}{pins:List (Addr×Obj)}{σ:L2.St}{H:Hp}{s:Shared}{t:Bool}{a:Addr}{xs:List V}(I:Inv X pins σ H s)(h:SqG t X.K H a xs):∃its:List Value,Vals xs its/\SqK t s.heap a its.toArray:=by
 cases t with
 |false =>
  obtain⟨its,rv,p,_⟩:=I.list (show SqL X.K H a xs from h)
  exact⟨its,rv,p.isList⟩
 |true =>
  obtain⟨its,rv,p,_⟩:=I.tuple (show SqT X.K H a xs from h)
  exact⟨its,rv,p⟩
theorem sqg_same {K:PySem.W.Frag}{H H':Hp}{t:Bool}{a:Addr}{xs:List V}(e:Same H H')(h:SqG t K H a xs):SqG t K H' a xs:=by
 cases t with
 |false=>exact e.seq (show SqL K H a xs from h)
 |true=>exact e.seqT (show SqT K H a xs from h)
section
variable {X:Cx} {E:XK} {pos p p2:Pos} {es:List Expr} {k:Nat}
end
end DL
set_option maxHeartbeats 4000000
set_option linter.all false
set_option maxRecDepth 100000
namespace DL
open PySem PySem.Spec PyProof.Rows L2
section
variable {X:Cx} {E:XK} {pos:Pos} {a b:Expr}
end
end DL
set_option maxHeartbeats 4000000
set_option linter.all false
set_option maxRecDepth 100000
namespace DL
open PySem PySem.Spec PyProof.Rows L2 PySem.W
section
variable {X:Cx} {E:XK} {pos p p2:Pos} {vn:Str}
end
end DL
set_option maxHeartbeats 4000000
set_option linter.all false
set_option maxRecDepth 100000
namespace DL
open PySem PySem.Spec PyProof.Rows L2 PySem.W
def KeepS (n0:Nat)(gs:List D->DSt->M DSt):Prop:=∀ds sd sd1,gs ds sd=.ok sd1->sd1.length=sd.length/\(∀i:Nat,n0<=i->sd1[i]?=sd[i]?)/\True
theorem keeps_nil {n0:Nat}:KeepS n0 gsNil:=fun ds sd sd1 e=>by
 cases ds with
 |nil=>cases e;exact⟨rfl,fun _ _=>rfl,trivial⟩
 |cons d ds=>cases e
theorem keeps_cons {n0:Nat}{g:D->DSt->M DSt}{gs:List D->DSt->M DSt}(h:Keep n0 g)(h2:KeepS n0 gs):KeepS n0 (gsCons g gs):=fun ds sd sd1 e=>by
 cases ds with
 |nil=>cases e
 |cons d ds =>
  have e:(g d sd).bind (fun sd'=>gs ds sd')=.ok sd1:=e
  cases q:g d sd with
  |ok sd' =>
   rw[q] at e
   obtain⟨a1,a2,_⟩:=h d sd sd' q
   obtain⟨b1,b2,_⟩:=h2 ds sd' sd1 e
   exact⟨b1.trans a1,fun i hi=>(b2 i hi).trans (a2 i hi),trivial⟩
  |ex x=>rw[q] at e;cases e
  |bad=>rw[q] at e;cases e
theorem keep_tup {n0 k:Nat}{gs:List D->DSt->M DSt}(h:KeepS n0 gs):Keep n0 (gTupD k gs):=fun d sd sd1 e=>by
 unfold gTupD at e
 split at e
 ·split at e
  ·exact h _ _ _ e
  ·cases e
 ·split at e
  ·exact h _ _ _ e
  ·cases e
 ·split at e
  ·exact h _ _ _ e
  ·cases e
 ·cases e
end DL
set_option maxHeartbeats 4000000
set_option linter.all false
set_option maxRecDepth 100000
namespace DL
open PySem PySem.Spec PyProof.Rows L2
open AutoSeq1 (wpAny_loadPart')
section
variable {prog:Program} {w:World} {A:Around} {E:Value->Shared->Prop} {s:Shared}
end
section
variable {X:Cx} {E:XK} {pos p p2:Pos} {es:List Expr} {k:Nat}
end
end DL
set_option maxHeartbeats 4000000
set_option linter.all false
set_option maxRecDepth 100000
namespace DL
open PySem PySem.Spec PyProof.Rows L2 PySem.W
section
variable {prog:Program} {w:World} {A:Around} {E:Value->Shared->Prop} {s:Shared}
theorem collectK {t:Bool}{l:Addr}{vs:List Value}{Q:List Value->Shared->Prop}(hl:SqK t s.heap l vs.toArray) (h:Q vs { s with heap:=(s.heap.push (seqObj "list" #[] 0)).update s.heap.objs.size (Obj.mapSeq (·++vs.toArray)) }) (hz:vs.length<=sizeLine) :
  wpAny (model prog w) A (collect (.ref l)) Q E s:=by
 cases t with
 |false=>exact collect_list (show s.heap.IsList l vs.toArray from hl) h hz
 |true =>
  obtain⟨o,ho,hc,n,hd⟩:=id hl
  have ho':(s.heap.push (seqObj "list" #[] 0)).get? l=some o:=Heap.get?_push_of_some _ ho
  have hn:(s.heap.push (seqObj "list" #[] 0)).get? s.heap.objs.size=some (seqObj "list" #[] 0):=Heap.get?_push_size _ rfl
  unfold collect
  refine wpAny_bind (wpAny_runValue (codeAny_builtin entry_proto_collect' (wpAny_bind (m:=newList []) (wpAny_newList (wpAny_pure ⟨Code.quiet_builtin _ (by decide +kernel),codeAny_builtin entry_list_iadd' ?_⟩)))))
  change wpAny _ _ (Builtin.List.listExtendWith _ _ _) _ _ _
  unfold Builtin.List.listExtendWith
  refine wpAny_bind (wpAny_typeOf (T := "tuple") ⟨o,ho',hc⟩ ?_)
  have ht:(Value.type "tuple" == Value.type "tuple")=true:=by rfl
  rw[if_pos (by rw[ht];simp)]
  refine wpAny_bind (listItems_at ho' hd (wpAny_bind (listItems_at hn rfl ?_)))
  rw[if_neg (by simp)]
  refine wpAny_bind (listUpdate_at hn rfl (wpAny_pure ?_) (Nat.zero_le _) (by show(#[]++vs.toArray).size<=_;simp only[Array.size_append,List.size_toArray,List.length_nil];lia))
  change wpAny _ _ (do
   let o <-load s.heap.objs.size
   match o.data with
   |.seq xs _=>pure xs.toList
   |_=>unsupported "internal:collect") Q E _
  refine wpAny_bind (wpAny_load (get?_update_seq hn _) ?_)
  change wpAny _ _ (pure ((#[]:Array Value)++vs.toArray).toList) Q E _
  have e0:((#[]:Array Value)++vs.toArray).toList=vs:=by simp
  rw[e0]
  exact wpAny_pure h
end
def headS:List V->Bool
 |.str _::_=>true
 |_=>false
def headI:List V->Bool
 |.int _::_=>true
 |_=>false
def RowsH (h:Heap):List Value->List (List V)->Prop:=Paired fun u y=>∃a us,u=Value.ref a/\IsTup h a us.toArray/\Vals y us
theorem RowsH.mono {h h':Heap}{us:List Value}{ys:List (List V)}(k:∀b o,h.get? b=some o->h'.get? b=some o)(r:RowsH h us ys):RowsH h' us ys :=
 Paired.mapP r fun u y q=>by
  obtain⟨a,vs,e,⟨o,e1,e2⟩,e3⟩:=q
  exact⟨a,vs,e,⟨o,k _ _ e1,e2⟩,e3⟩
theorem RowsH.firstS {h:Heap}:∀{us:List Value} {ys:List (List V)},RowsH h us ys->ys.all headS=true->∃fs,KatTups h us fs/\(∀v∈fs,∃x t,v=Value.str x t)/\fs.length=us.length
 |_,_,.nil,_=>⟨[],KatTups.nil,fun v hv=>(by cases hv),rfl⟩
 |_,y::ys,.cons q r,hs=>by
  rw[List.all_cons,Bool.and_eq_true] at hs
  obtain⟨fs,k1,k2,k3⟩:=RowsH.firstS r hs.2
  obtain⟨a,vs,rfl,⟨o,e1,e2,n,e3⟩,e4⟩:=q
  cases y with
  |nil=>simp[headS] at hs
  |cons z y =>
   cases z with
   |str x =>
    cases e4 with
    |cons rx rr =>
     obtain⟨t,rfl⟩:=rx
     exact⟨Value.str x t::fs,KatTups.cons e1 e2 e3 (by simp) k1,fun v hv=>by
      rcases List.mem_cons.mp hv with rfl|hv
      ·exact⟨x,t,rfl⟩
      ·exact k2 v hv,by rw[List.length_cons,List.length_cons,k3]⟩
   |_=>simp[headS] at hs
theorem RowsH.firstI {h:Heap}:∀{us:List Value} {ys:List (List V)},RowsH h us ys->ys.all headI=true->∃fs,KatTups h us fs/\(∀v∈fs,∃x t,v=Value.int x t)/\fs.length=us.length
 |_,_,.nil,_=>⟨[],KatTups.nil,fun v hv=>(by cases hv),rfl⟩
 |_,y::ys,.cons q r,hs=>by
  rw[List.all_cons,Bool.and_eq_true] at hs
  obtain⟨fs,k1,k2,k3⟩:=RowsH.firstI r hs.2
  obtain⟨a,vs,rfl,⟨o,e1,e2,n,e3⟩,e4⟩:=q
  cases y with
  |nil=>simp[headI] at hs
  |cons z y =>
   cases z with
   |int x =>
    cases e4 with
    |cons rx rr =>
     obtain⟨t,rfl⟩:=rx
     exact⟨Value.int x t::fs,KatTups.cons e1 e2 e3 (by simp) k1,fun v hv=>by
      rcases List.mem_cons.mp hv with rfl|hv
      ·exact⟨x,t,rfl⟩
      ·exact k2 v hv,by rw[List.length_cons,List.length_cons,k3]⟩
   |_=>simp[headI] at hs
theorem RowsH.get {h:Heap}:∀{us:List Value} {ys:List (List V)} {i:Nat} {y:List V},RowsH h us ys->ys[i]?=some y->∃a vs,us.getD i Value.none=Value.ref a/\IsTup h a vs.toArray/\Vals y vs
 |_,_,_,_,.nil,e=>by simp at e
 |_,_,0,_,.cons q _,e=>by
  simp at e
  subst e
  obtain⟨a,vs,rfl,e1,e2⟩:=q
  exact⟨a,vs,rfl,e1,e2⟩
 |_,_,i+1,_,.cons _ r,e=>by
  obtain⟨a,vs,e1,e2,e3⟩:=RowsH.get (i:=i) r (by simpa using e)
  exact⟨a,vs,by simpa using e1,e2,e3⟩
def RowsT (H:Hp):List V->List (List V)->Prop:=Paired fun z y=>∃a,z=V.ref a/\H a=some (.tup y)
theorem rows_h {X:Cx}{pins:List (Addr×Obj)}{σ:L2.St}{H:Hp}{s:Shared}(I:Inv X pins σ H s):∀{zs:List V} {ys:List (List V)} {us:List Value},RowsT H zs ys->Vals zs us->RowsH s.heap us ys
 |_,_,_,.nil,.nil=>.nil
 |_,_,_,.cons q r,.cons v t=>.cons (by
   obtain⟨a,rfl,e⟩:=q
   cases v
   obtain⟨its,rv,p,_⟩:=I.tuple (SqT.of e)
   exact⟨a,its,rfl,p,rv⟩) (rows_h I r t)
section
variable {X:Cx} {E:XK}
theorem RowsT.mono {H H':Hp}{xs:List V}{ys:List (List V)}(e:Same H H')(r:RowsT H xs ys):RowsT H' xs ys:=Paired.mapP r fun _ _ q=>by
 obtain⟨a,h1,h2⟩:=q
 exact⟨a,h1,e _ _ h2⟩
def tupB (K:PySem.W.Frag)(a:Addr)(cs:List V):Bool:=match K.lookup a with
 |some o=>(match o.cls,o.data with
  |.type n,.seq its _=>decide (n = "tuple")&&decide (its.size<=1000)&&decide (its.toList.map absV=cs.map some)&&cs.all flatV
  |_,_=>false)
 |none=>false
theorem vals_of_abs:∀{cs:List V} {us:List Value},us.map absV=cs.map some->cs.all flatV=true->Vals cs us
 |[],[],_,_=>.nil
 |c::cs,u::us,e,f=>by
  rw[List.map_cons,List.map_cons] at e
  injection e with e1 e2
  rw[List.all_cons,Bool.and_eq_true] at f
  refine .cons ?_ (vals_of_abs e2 f.2)
  cases u<;>simp[absV] at e1<;>subst e1<;>first|exact rfl|exact⟨_,rfl⟩
 |[],_::_,e,_=>by simp at e
 |_::_,[],e,_=>by simp at e
theorem tupB_sq {K:PySem.W.Frag}{H:Hp}{a:Addr}{cs:List V}(h:tupB K a cs=true):SqT K H a cs/\cs.all flatV=true:=by
 unfold tupB at h
 split at h
 ·rename_i o eo
  split at h
  ·rename_i n its m e1 e2
   rw[Bool.and_eq_true,Bool.and_eq_true,Bool.and_eq_true] at h
   obtain⟨⟨⟨h1,h2⟩,h3⟩,h4⟩:=h
   have h1:=of_decide_eq_true h1
   subst h1
   refine⟨.inr ⟨o,its,m,eo,e1,e2,?_,vals_of_abs (of_decide_eq_true h3) h4⟩,h4⟩
   have:=of_decide_eq_true h2
   rw[sizeLine_eq]
   lia
  ·cases h
 ·cases h
variable {e:Expr} {x:Str} {pos p2:Pos} {a:Addr} {cs:List V} {f:DSt->M D}
theorem Reps.set {K:PySem.W.Frag}{H:Hp}{d:D}{x:V}(h:Rep K H d x):∀{ds:List D} {xs:List V} (j:Nat),Reps K H ds xs->Reps K H (ds.set j d) (xs.set j x)
 |[],_,_,r=>by rw[reps_nil.mp r];exact Reps.nil
 |_::ds,_,0,r=>by
  obtain⟨y,t,rfl,_,q⟩:=reps_cons.mp r
  exact Reps.cons h q
 |_::ds,_,j+1,r=>by
  obtain⟨y,t,rfl,z,q⟩:=reps_cons.mp r
  exact Reps.cons z (Reps.set h j q)
theorem po_asB {f:DSt->M D}{sd:DSt}{Hf H:Hp}{Q:Bool->Hp->Prop}(h:Po X.K E rQ Hf H (DL.tB f sd) Q):Po X.K E (rV X.K) Hf H (f sd) (fun v H'=>∃k,v=.bl k/\Q k H') :=
 Po.bind h fun d v Hf1 H1 _ g1 rv h1=>by
  unfold asB at h1
  split at h1
  ·exact⟨_,rep_bl.mp rv,Po.ret (R:=rQ) g1.sub h1 rfl⟩
  ·exact h1.elim
theorem ptd_dnotin (i:Nat){key:Expr}{p1:Pos}{fk:DSt->M D}(hu:X.A.units+64<cLine)(hk:PEd X E key fk)(hi:X.N[i]?=some x:=by rfl)(hvis:Vis X.env.scope x:=by first|exact Or.inl rfl|exact Or.inr (Or.inl rfl)|exact Or.inr (Or.inr rfl))
  (hd:(x==("__debug__" : Str))=false:=by decide) (hcd:(x==("__classdict__" : Str))=false:=by decide):PTd X E (.Compare key [.NotIn] [.Name x p1] pos) (DL.tB (eDNotIn i fk)):=by
 obtain⟨tk,pk,qk⟩:=hk
 refine⟨_,pt_cmp (pc_dnotin (by lia) pk (pe_var hi hvis hd hcd)) (by rfl),fun H0 B Hf sd σ H Q sr h=>?_⟩
 have h:=po_asB h
 unfold eDNotIn at h
 split at h
 case isFalse=>exact h.elim
 case isTrue hdc=>exact din_core (g:=not) qk sr hdc h
end
end DL
set_option autoImplicit false
set_option maxHeartbeats 4000000
set_option linter.all false
namespace TS
open PySem PyProof.Rows
def SrtR (κ:KeyKind)(xs:Array Keyed)(i j:Nat):Prop:=∀p q,i<=p->p<=q->q<j->κ.kle (KK κ xs p) (KK κ xs q)
def DscR (κ:KeyKind)(xs:Array Keyed)(i j:Nat):Prop:=∀p q,i<=p->p<=q->q<j->κ.kle (KK κ xs q) (KK κ xs p)
structure SB (kd:SortKind) (a₀:Array Keyed) (st:SortSt):Prop where
 perm:(arrOf st).Perm a₀
 kind:kindOf st=kd
 failed:failedOf st=none
theorem SB.size {kd:SortKind}{a₀:Array Keyed}{st:SortSt}(h:SB kd a₀ st):(arrOf st).size=a₀.size:=h.perm.size_eq
theorem SB.setArr {kd:SortKind}{a₀:Array Keyed}{st:SortSt}(h:SB kd a₀ st){xs:Array Keyed}(hp:xs.Perm (arrOf st)):SB kd a₀ (setArr st xs):=⟨hp.trans h.perm,h.kind,h.failed⟩
def LtOk (prog:Program)(w:World)(A:Around)(E:Value->Shared->Prop)(s:Shared)(κ:KeyKind)(kd:SortKind):Prop :=
 ∀(x y:Keyed) (a b:κ.α) (st:SortSt) (Q:Option Bool->SortSt->Prop),κ.keyOf x.1=some a->κ.keyOf y.1=some b->kindOf st=kd->Q (some (κ.blt a b)) st->wpS (model prog w) A E s (lt' x y) Q st
def kx (κ:KeyKind)(x:Keyed):κ.α:=(κ.keyOf x.1).getD κ.dflt
theorem KK_at {κ:KeyKind}{xs:Array Keyed}{i:Nat}{x:Keyed}(h:xs[i]?=some x):KK κ xs i=kx κ x:=by unfold KK kx;rw[h]
theorem keys_of {κ:KeyKind}{a b:Array Keyed}(h:KeysOf κ a)(hp:b.Perm a):KeysOf κ b:=fun p hm=>h p ((Array.perm_iff_toList_perm.mp hp).mem_iff.mp hm)
theorem key_at {κ:KeyKind}{xs:Array Keyed}(h:KeysOf κ xs){i:Nat}(hi:i<xs.size):∃x,xs[i]?=some x/\κ.keyOf x.1=some (KK κ xs i)/\kx κ x=KK κ xs i:=by
 have e:xs[i]?=some xs[i]:=getElem?_pos _ i hi
 obtain⟨a,ha⟩:=h xs[i] (by simp)
 refine⟨xs[i],e,?_,(KK_at e).symm⟩
 rw[KK_at e]
 unfold kx
 rw[ha];rfl
section
variable {prog:Program} {w:World} {A:Around} {E:Value->Shared->Prop} {s:Shared} {a₀:Array Keyed} {κ:KeyKind} {kd:SortKind}
theorem wp_ltAt {st:SortSt}{i j:Nat}{Q:Option Bool->SortSt->Prop}(hO:LtOk prog w A E s κ kd)(hB:SB kd a₀ st)(h0:KeysOf κ a₀)(hi:i<a₀.size)(hj:j<a₀.size)(h:Q (some (κ.blt (KK κ (arrOf st) i) (KK κ (arrOf st) j))) st):wpS (model prog w) A E s (ltAt' i j) Q st:=by
 obtain⟨x,e1,k1,_⟩:=key_at (keys_of h0 hB.perm) (i:=i) (by rw[hB.size];exact hi)
 obtain⟨y,e2,k2,_⟩:=key_at (keys_of h0 hB.perm) (i:=j) (by rw[hB.size];exact hj)
 rw[ltAt'_eq]
 refine wpS_bind (wpS_get ?_)
 change wpS _ _ _ _ (do let x <-elem' (arrOf st) i;let y <-elem' (arrOf st) j;lt' x y) Q st
 rw[elem'_eq,elem'_eq,e1,e2]
 exact wpS_bind (wpS_pure (wpS_bind (wpS_pure (hO x y _ _ st Q k1 k2 hB.kind h))))
theorem wp_rev {st:SortSt}{i j:Nat}{Q:Unit->SortSt->Prop}(h:Q () (setArr st (mirror (arrOf st) i j ((j - i) / 2)))):wpS (model prog w) A E s (reverseSlice' i j) Q st:=by
 rw[reverseSlice'_eq];exact wpS_modify h
theorem wp_bin {st:SortSt}{lo n ok:Nat}{Q:Bool->SortSt->Prop}(hO:LtOk prog w A E s κ kd)(h0:KeysOf κ a₀)(hn:lo+n<=a₀.size)(hok:ok<=n)(hB:SB kd a₀ st)(hs:SrtR κ (arrOf st) lo (lo+ok))(h:∀st',SB kd a₀ st'->pendingOf st'=pendingOf st->(∀k,k<lo->KK κ (arrOf st') k=KK κ (arrOf st) k)->SrtR κ (arrOf st') lo (lo+n)->Q true st'):wpS (model prog w) A E s (binarySort' lo n ok) Q st:=by
 rw[binarySort'_eq]
 refine wpS_bind (wpS_mono (wpS_forRange (I:=fun k c st'=>c=(none,())/\SB kd a₀ st'/\pendingOf st'=pendingOf st/\(∀k,k<lo->KK κ (arrOf st') k=KK κ (arrOf st) k)/\SrtR κ (arrOf st') lo (lo+min k n))
  (Q:=fun c st'=>c=(none,())/\SB kd a₀ st'/\pendingOf st'=pendingOf st/\(∀k,k<lo->KK κ (arrOf st') k=KK κ (arrOf st) k)/\SrtR κ (arrOf st') lo (lo+n)) ?step ?fin ?init) ?post)
 case post =>
  rintro c st' ⟨rfl,hB',hp,hk,hs'⟩
  exact wpS_pure (h st' hB' hp hk hs')
 case init =>
  refine⟨rfl,hB,rfl,fun _ _=>rfl,fun p q h1 h2 h3=>?_⟩
  by_cases h4:ok=0
  ·have:p=q:=by lia
   subst this;exact KeyOrd.kle_refl _
  ·exact hs p q h1 h2 (by lia)
 case fin =>
  rintro c st' ⟨hc,hB',hp,hk,hs'⟩
  refine⟨hc,hB',hp,hk,?_⟩
  rwa[show min (max (max ok 1) n) n=n by lia] at hs'
 case step =>
  rintro k c st' h1k hkn ⟨rfl,hB',hp,hkk,hs'⟩
  rw[show min k n=k by lia] at hs'
  have hk:lo+k<a₀.size:=by lia
  refine wpS_bind (wpS_mono (wpS_forRange (I:=fun x c st''=>st''=st'/\∃l r,c=(none,l,r)/\l<=r/\r<=k/\r - l<=k - x /\
    (∀i,i<l->κ.kle (KK κ (arrOf st') (lo+i)) (KK κ (arrOf st') (lo+k)))/\(∀i,r<=i->i<k->κ.klt (KK κ (arrOf st') (lo+k)) (KK κ (arrOf st') (lo+i))))
   (Q:=fun c st''=>st''=st'/\∃l r,c=(none,l,r)/\l<=k /\
    (∀i,i<l->κ.kle (KK κ (arrOf st') (lo+i)) (KK κ (arrOf st') (lo+k)))/\(∀i,l<=i->i<k->κ.klt (KK κ (arrOf st') (lo+k)) (KK κ (arrOf st') (lo+i)))) ?a ?b ?c0) ?d)
  case c0=>exact⟨rfl,0,k,rfl,by lia,by lia,by lia,fun i hi=>by lia,fun i h1 h2=>by lia⟩
  case b =>
   rintro c st'' ⟨rfl,l,r,rfl,le1,le2,hm,blw,abv⟩
   have:l=r:=by lia
   subst this
   exact⟨rfl,l,l,rfl,le2,blw,abv⟩
  case a =>
   rintro x c st'' _ hxk ⟨rfl,l,r,rfl,le1,le2,hm,blw,abv⟩
   dsimp only
   by_cases stop:l ≥ r
   ·rw[if_pos stop]
    have:l=r:=by lia
    subst this
    exact wpS_pure ⟨rfl,l,l,rfl,le2,blw,abv⟩
   ·rw[if_neg stop]
    refine wpS_bind (wp_ltAt hO hB' h0 hk (by lia) ?_)
    cases hs1:κ.blt (KK κ (arrOf st'') (lo+k)) (KK κ (arrOf st'') (lo+(l+r) / 2))
    case true =>
     simp only[if_true]
     refine wpS_pure ⟨rfl,l,(l+r) / 2,rfl,by lia,by lia,by lia,blw,fun i h1 h2=>?_⟩
     exact KeyOrd.klt_of_klt_of_kle hs1 (hs' _ _ (by lia) (by lia) (by lia))
    case false =>
     simp only[Bool.false_eq_true,if_false]
     refine wpS_pure ⟨rfl,(l+r) / 2+1,r,rfl,by lia,by lia,by lia,fun i h1=>?_,abv⟩
     exact KeyOrd.kle_trans (hs' (lo+i) (lo+(l+r) / 2) (by lia) (by lia) (by lia)) (show κ.kle _ _ from hs1)
  case d =>
   rintro c st'' ⟨rfl,l,r,rfl,le3,blw,abv⟩
   change wpS _ _ _ _ (do moveDown' (lo+k) (lo+l);pure (ForInStep.yield (none,()))) _ _
   rw[moveDown'_eq]
   have hks:lo+k<(arrOf st'').size:=by rw[hB'.size];exact hk
   have blw':∀i,lo<=i->i<lo+l->κ.kle (KK κ (arrOf st'') i) (KK κ (arrOf st'') (lo+k)):=fun i h1 h2=>by
    have:=blw (i - lo) (by lia)
    rwa[show lo+(i - lo)=i by lia] at this
   have abv':∀i,lo+l<=i->i<lo+k->κ.klt (KK κ (arrOf st'') (lo+k)) (KK κ (arrOf st'') i):=fun i h1 h2=>by
    have:=abv (i - lo) (by lia) (by lia)
    rwa[show lo+(i - lo)=i by lia] at this
   refine wpS_bind (wpS_modify (wpS_pure ⟨rfl,hB'.setArr (bubble_perm _ _ _),hp,fun j hj=>?_,?_⟩))
   ·refine Eq.trans ?_ (hkk j hj)
    change KK κ (bubble (arrOf st'') (lo+k) (lo+k - (lo+l))) j=_
    rw[KK_bubble hks (by lia),if_neg (by lia),if_neg (by lia)]
   ·rw[show min (k+1) n=k+1 by lia]
    intro p q hp1 hpq hq
    change κ.kle (KK κ (bubble (arrOf st'') (lo+k) (lo+k - (lo+l))) p) (KK κ (bubble (arrOf st'') (lo+k) (lo+k - (lo+l))) q)
    rw[KK_bubble hks (by lia),KK_bubble hks (by lia),show lo+k - (lo+k - (lo+l))=lo+l by lia]
    repeat' split
    all_goals first
     |(exfalso;lia)
     |exact KeyOrd.kle_refl _
     |exact blw' _ (by lia) (by lia)
     |exact KeyOrd.kle_of_klt (abv' _ (by lia) (by lia))
     |exact hs' _ _ (by lia) (by lia) (by lia)
end
end TS
set_option autoImplicit false
set_option maxHeartbeats 4000000
set_option linter.all false
namespace TS
open PySem PyProof.Rows
section
variable {prog:Program} {w:World} {A:Around} {E:Value->Shared->Prop} {s:Shared} {a₀:Array Keyed} {κ:KeyKind} {kd:SortKind}
theorem wp_rule {tag:String}{Q:Unit->SortSt->Prop}{st:SortSt}(h:Q () st):wpS (model prog w) A E s (liftM (rule tag):StateT SortSt Sem Unit) Q st :=
 wpS_lift (wpAny_rule ⟨rfl,h⟩)
theorem SrtR.more {xs:Array Keyed}{lo n:Nat}(h:SrtR κ xs lo (lo+n))(hn:1<=n)(e:κ.kle (KK κ xs (lo+n - 1)) (KK κ xs (lo+n))):SrtR κ xs lo (lo+(n+1)):=fun p q h1 h2 h3=>by
 by_cases hq:q<lo+n
 ·exact h p q h1 h2 hq
 ·have:q=lo+n:=by lia
  subst this
  by_cases hp:p=lo+n
  ·subst hp;exact κ.irrefl _
  ·exact KeyOrd.kle_trans (h p (lo+n - 1) h1 (by lia) (by lia)) e
theorem DscR.more {xs:Array Keyed}{lo n:Nat}(h:DscR κ xs lo (lo+n))(hn:1<=n)(e:κ.kle (KK κ xs (lo+n)) (KK κ xs (lo+n - 1))):DscR κ xs lo (lo+(n+1)):=fun p q h1 h2 h3=>by
 by_cases hq:q<lo+n
 ·exact h p q h1 h2 hq
 ·have:q=lo+n:=by lia
  subst this
  by_cases hp:p=lo+n
  ·subst hp;exact κ.irrefl _
  ·exact KeyOrd.kle_trans e (h p (lo+n - 1) h1 (by lia) (by lia))
theorem SrtR.one {xs:Array Keyed}{lo:Nat}:SrtR κ xs lo (lo+1):=fun p q h1 h2 h3=>by
 have:p=q:=by lia
 subst this;exact κ.irrefl _
theorem dsc_rev {xs:Array Keyed}{lo n:Nat}(hn:lo+n<=xs.size)(h:DscR κ xs lo (lo+n)):SrtR κ (mirror xs lo (lo+n) ((lo+n - lo) / 2)) lo (lo+n):=fun p q h1 h2 h3=>by
 rw[KK_mirror hn,KK_mirror hn,if_pos ⟨by lia,by lia⟩,if_pos ⟨by lia,by lia⟩]
 exact h _ _ (by lia) (by lia) (by lia)
theorem srt_rev {xs:Array Keyed}{lo n:Nat}(hn:lo+n<=xs.size)(h:SrtR κ xs lo (lo+n)):DscR κ (mirror xs lo (lo+n) ((lo+n - lo) / 2)) lo (lo+n):=fun p q h1 h2 h3=>by
 rw[KK_mirror hn,KK_mirror hn,if_pos ⟨by lia,by lia⟩,if_pos ⟨by lia,by lia⟩]
 exact h _ _ (by lia) (by lia) (by lia)
theorem pre_rev {xs:Array Keyed}{lo i j k:Nat}(hn:j<=xs.size)(hi:lo<=i)(hk:k<lo):KK κ (mirror xs i j ((j - i) / 2)) k=KK κ xs k:=by
 rw[KK_mirror hn,if_neg (by lia)]
abbrev Keeps (κ:KeyKind)(lo:Nat)(st st':SortSt):Prop:=pendingOf st'=pendingOf st/\∀k,k<lo->KK κ (arrOf st') k=KK κ (arrOf st) k
theorem Keeps.rev {lo i j:Nat}{st st':SortSt}(h:Keeps κ lo st st')(hn:j<=(arrOf st').size)(hi:lo<=i):Keeps κ lo st (setArr st' (mirror (arrOf st') i j ((j - i) / 2))) :=
 ⟨h.1,fun k hk=>(pre_rev hn hi hk).trans (h.2 k hk)⟩
theorem conv_ {α:Type}{m m':StateT SortSt Sem α}{Q:α->SortSt->Prop}{st:SortSt}(h:wpS (model prog w) A E s m Q st)(e:m=m'):wpS (model prog w) A E s m' Q st:=e▸h
theorem wp_count {st:SortSt}{lo nrem:Nat}{Q:Option Nat->SortSt->Prop}(hO:LtOk prog w A E s κ kd)(h0:KeysOf κ a₀)(hn:lo+nrem<=a₀.size)(h1:1<=nrem)(hB:SB kd a₀ st)(h:∀n st',SB kd a₀ st'->Keeps κ lo st st'->1<=n->n<=nrem->SrtR κ (arrOf st') lo (lo+n)->Q (some n) st'):wpS (model prog w) A E s (countRun' lo nrem) Q st:=by
 rw[countRun'_eq]
 have asc:∀(m:Nat) (st1:SortSt) (Q1:Option (Option Nat)×Nat->SortSt->Prop),SB kd a₀ st1->1<=m->m<=nrem->SrtR κ (arrOf st1) lo (lo+m) ->
   (∀n,m<=n->n<=nrem->SrtR κ (arrOf st1) lo (lo+n)->(n=nrem\/κ.klt (KK κ (arrOf st1) (lo+n)) (KK κ (arrOf st1) (lo+n - 1)))->Q1 (none,n) st1) ->
   wpS (model prog w) A E s (forIn [m:nrem] ((none,m):Option (Option Nat)×Nat) fun _ r=>do
    let __do_lift <-ltAt' (lo+r.snd) (lo+r.snd - 1)
    match __do_lift with
    |some smaller=>if smaller=true then pure (ForInStep.done (none,r.snd)) else pure (ForInStep.yield (none,r.snd+1))
    |_=>pure (ForInStep.done (some none,r.snd))) Q1 st1:=by
  intro m st1 Q1 hB1 hm hm2 hs hq
  refine wpS_forRange (I:=fun x c st'=>st'=st1/\c=(none,x)/\SrtR κ (arrOf st1) lo (lo+x)) ?_ ?_ ⟨rfl,rfl,hs⟩
  ·rintro x c st' hx1 hx2 ⟨rfl,rfl,hs'⟩
   dsimp only
   refine wpS_bind (wp_ltAt hO hB1 h0 (by lia) (by lia) ?_)
   cases e:κ.blt (KK κ (arrOf st') (lo+x)) (KK κ (arrOf st') (lo+x - 1)) with
   |true=>exact wpS_pure (hq x hx1 (by lia) hs' (.inr e))
   |false=>exact wpS_pure ⟨rfl,rfl,hs'.more (by lia) e⟩
  ·rintro c st' ⟨rfl,rfl,hs'⟩
   rw[show max m nrem=nrem by lia] at hs' ⊢
   exact hq nrem hm2 (Nat.le_refl _) hs' (.inl rfl)
 refine wpS_bind (asc 1 st _ hB (Nat.le_refl _) h1 SrtR.one fun n n1 n2 hs hd=>?_)
 dsimp only
 by_cases hz:n=nrem
 ·rw[if_pos (by simpa using hz)]
  exact wpS_pure (h n st hB ⟨rfl,fun _ _=>rfl⟩ n1 n2 hs)
 rw[if_neg (by simpa using hz)]
 have hd:κ.klt (KK κ (arrOf st) (lo+n)) (KK κ (arrOf st) (lo+n - 1)):=hd.resolve_left hz
 have fin:∀(m:Nat) (st1:SortSt),SB kd a₀ st1->Keeps κ lo st st1->1<=m->m<=nrem->DscR κ (arrOf st1) lo (lo+m) ->
   wpS (model prog w) A E s (do
    reverseSlice' lo (lo+m)
    let r <-forIn [m:nrem] ((none,m):Option (Option Nat)×Nat) fun _ r=>do
     let v <-ltAt' (lo+r.snd) (lo+r.snd - 1)
     match v with
     |some smaller=>if smaller=true then pure (ForInStep.done (none,r.snd)) else pure (ForInStep.yield (none,r.snd+1))
     |_=>pure (ForInStep.done (some none,r.snd))
    match r.fst with
    |some r=>pure r
    |none=>pure (some r.snd)) Q st1:=by
  intro m st1 hB1 hK m1 m2 hds
  have hz1:lo+m<=(arrOf st1).size:=by rw[hB1.size];lia
  refine wpS_bind (wp_rev (wpS_bind (asc m _ _ (hB1.setArr (mirror_perm _ _ _ _)) m1 m2 (dsc_rev hz1 hds) fun k k1 k2 hk _=>wpS_pure (h k _ (hB1.setArr (mirror_perm _ _ _ _)) (hK.rev hz1 (Nat.le_refl _)) (by lia) k2 hk))))
 have rest:∀st1:SortSt,SB kd a₀ st1->Keeps κ lo st st1->DscR κ (arrOf st1) lo (lo+(n+1)) ->
   wpS (model prog w) A E s (do
    let _ <-(liftM (rule "list.sort.descending-run"):StateT SortSt Sem Unit)
    let r <-forIn [n+1:nrem] ((none,n+1,0):Option (Option Nat)×Nat×Nat) fun _ r=>do
     let v <-ltAt' (lo+r.snd.fst) (lo+r.snd.fst - 1)
     match v with
     |some smaller =>
      if smaller=true then
       if r.snd.snd > 0 then do
        reverseSlice' (lo+r.snd.fst - (r.snd.snd+1)) (lo+r.snd.fst)
        pure (ForInStep.yield (none,r.snd.fst+1,0))
       else pure (ForInStep.yield (none,r.snd.fst+1,0))
      else do
       let v <-ltAt' (lo+r.snd.fst - 1) (lo+r.snd.fst)
       match v with
       |some larger=>if larger=true then pure (ForInStep.done (none,r.snd.fst,r.snd.snd)) else pure (ForInStep.yield (none,r.snd.fst+1,r.snd.snd+1))
       |_=>pure (ForInStep.done (some none,r.snd.fst,r.snd.snd))
     |_=>pure (ForInStep.done (some none,r.snd.fst,r.snd.snd))
    match r.fst with
    |some r=>pure r
    |none =>
     if r.snd.snd > 0 then do
      reverseSlice' (lo+r.snd.fst - (r.snd.snd+1)) (lo+r.snd.fst)
      reverseSlice' lo (lo+r.snd.fst)
      let r <-forIn [r.snd.fst:nrem] ((none,r.snd.fst):Option (Option Nat)×Nat) fun _ r=>do
       let v <-ltAt' (lo+r.snd) (lo+r.snd - 1)
       match v with
       |some smaller=>if smaller=true then pure (ForInStep.done (none,r.snd)) else pure (ForInStep.yield (none,r.snd+1))
       |_=>pure (ForInStep.done (some none,r.snd))
      match r.fst with
      |some r=>pure r
      |none=>pure (some r.snd)
     else do
      reverseSlice' lo (lo+r.snd.fst)
      let r <-forIn [r.snd.fst:nrem] ((none,r.snd.fst):Option (Option Nat)×Nat) fun _ r=>do
       let v <-ltAt' (lo+r.snd) (lo+r.snd - 1)
       match v with
       |some smaller=>if smaller=true then pure (ForInStep.done (none,r.snd)) else pure (ForInStep.yield (none,r.snd+1))
       |_=>pure (ForInStep.done (some none,r.snd))
      match r.fst with
      |some r=>pure r
      |none=>pure (some r.snd)) Q st1:=by
  intro st1 hB1 hK1 hd1
  have same:∀(st2:SortSt) (m q:Nat),lo+m<=(arrOf st2).size->q+1<=m->(∀i,lo+m - (q+1)<=i->i<lo+m->KK κ (arrOf st2) i=KK κ (arrOf st2) (lo+m - 1))->∀k,
    KK κ (mirror (arrOf st2) (lo+m - (q+1)) (lo+m) ((lo+m - (lo+m - (q+1))) / 2)) k=KK κ (arrOf st2) k:=fun st2 m q a1 a2 a3 k=>KK_mirror_equal a1 a3 k
  refine wpS_bind (wp_rule (wpS_bind (wpS_mono (wpS_forRange (I:=fun x c st2=>∃q,c=(none,x,q)/\SB kd a₀ st2/\Keeps κ lo st st2/\DscR κ (arrOf st2) lo (lo+x)/\q+1<=x /\
    (∀i,lo+x - (q+1)<=i->i<lo+x->KK κ (arrOf st2) i=KK κ (arrOf st2) (lo+x - 1)))
   (Q:=fun c st2=>∃x q,n+1<=x/\x<=nrem/\c=(none,x,q)/\SB kd a₀ st2/\Keeps κ lo st st2/\DscR κ (arrOf st2) lo (lo+x)/\q+1<=x /\
    (∀i,lo+x - (q+1)<=i->i<lo+x->KK κ (arrOf st2) i=KK κ (arrOf st2) (lo+x - 1))) ?turn ?done ⟨0,rfl,hB1,hK1,hd1,by lia,fun i i1 i2=>by congr 1;lia⟩) ?next)))
  case done =>
   rintro c st2 ⟨q,rfl,b1,b2,b3,b4,b5⟩
   rw[show max (n+1) nrem=nrem by lia] at b3 b4 b5 ⊢
   exact⟨nrem,q,by lia,Nat.le_refl _,rfl,b1,b2,b3,b4,b5⟩
  case turn =>
   rintro x c st2 x1 x2 ⟨q,rfl,b1,b2,b3,b4,b5⟩
   dsimp only
   have z1:lo+x<=(arrOf st2).size:=by rw[b1.size];lia
   refine wpS_bind (wp_ltAt hO b1 h0 (by lia) (by lia) ?_)
   cases e:κ.blt (KK κ (arrOf st2) (lo+x)) (KK κ (arrOf st2) (lo+x - 1)) with
   |true =>
    dsimp only
    rw[if_pos rfl]
    by_cases hq:q > 0
    ·rw[if_pos hq]
     have hsame:=same st2 x q z1 b4 b5
     refine wpS_bind (wp_rev (wpS_pure ⟨0,rfl,b1.setArr (mirror_perm _ _ _ _),b2.rev z1 (by lia),?_,by lia,fun i i1 i2=>by congr 1;lia⟩))
     intro p r r1 r2 r3
     refine Eq.subst (motive:=fun z=>κ.kle z _) (hsame r).symm (Eq.subst (motive:=fun z=>κ.kle _ z) (hsame p).symm ?_)
     exact b3.more (by lia) (KeyOrd.kle_of_klt e) p r r1 r2 r3
    ·rw[if_neg hq]
     exact wpS_pure ⟨0,rfl,b1,b2,b3.more (by lia) (KeyOrd.kle_of_klt e),by lia,fun i i1 i2=>by congr 1;lia⟩
   |false =>
    dsimp only
    rw[if_neg (by decide)]
    refine wpS_bind (wp_ltAt hO b1 h0 (by lia) (by lia) ?_)
    cases e2:κ.blt (KK κ (arrOf st2) (lo+x - 1)) (KK κ (arrOf st2) (lo+x)) with
    |true=>exact wpS_pure ⟨x,q,x1,by lia,rfl,b1,b2,b3,b4,b5⟩
    |false =>
     have ee:KK κ (arrOf st2) (lo+x)=KK κ (arrOf st2) (lo+x - 1):=κ.total _ _ e e2
     refine wpS_pure ⟨q+1,rfl,b1,b2,b3.more (by lia) e2,by lia,fun i i1 i2=>?_⟩
     rw[show lo+(x+1) - 1=lo+x by lia]
     by_cases hi:i=lo+x
     ·rw[hi]
     ·rw[ee];exact b5 i (by lia) (by lia)
  case next =>
   rintro c st2 ⟨x,q,x1,x2,rfl,b1,b2,b3,b4,b5⟩
   dsimp only
   have z1:lo+x<=(arrOf st2).size:=by rw[b1.size];lia
   by_cases hq:q > 0
   ·rw[if_pos hq]
    have hsame:=same st2 x q z1 b4 b5
    refine wpS_bind (wp_rev (fin x _ (b1.setArr (mirror_perm _ _ _ _)) (b2.rev z1 (by lia)) (by lia) x2 ?_))
    intro p r r1 r2 r3
    refine Eq.subst (motive:=fun z=>κ.kle z _) (hsame r).symm (Eq.subst (motive:=fun z=>κ.kle _ z) (hsame p).symm ?_)
    exact b3 p r r1 r2 r3
   ·rw[if_neg hq]
    exact fin x st2 b1 b2 (by lia) x2 b3
 by_cases hg:n > 1
 ·rw[if_pos hg]
  have z1:lo+n<=(arrOf st).size:=by rw[hB.size];lia
  refine wpS_bind (wp_ltAt hO hB h0 (by lia) (by lia) ?_)
  cases e:κ.blt (KK κ (arrOf st) lo) (KK κ (arrOf st) (lo+n - 1)) with
  |true=>exact wpS_pure (h n st hB ⟨rfl,fun _ _=>rfl⟩ n1 n2 hs)
  |false =>
   dsimp only
   rw[if_neg (by decide)]
   refine wpS_bind (wp_rev (conv_ (rest _ (hB.setArr (mirror_perm _ _ _ _)) (Keeps.rev ⟨rfl,fun _ _=>rfl⟩ z1 (Nat.le_refl _)) ?_) (by
    congr 1
    funext _u
    congr 1
    funext r
    obtain⟨a,b,c⟩:=r
    cases a with
    |some a=>rfl
    |none =>
     dsimp only
     split
     ·congr 1
      funext _v
      congr 1
      funext _v
      congr 1
      funext r
      obtain⟨a,b⟩:=r
      cases a<;>rfl
     ·congr 1
      funext _v
      congr 1
      funext r
      obtain⟨a,b⟩:=r
      cases a<;>rfl)))
   refine(srt_rev z1 hs).more (by lia) ?_
   change κ.kle (KK κ (mirror (arrOf st) lo (lo+n) ((lo+n - lo) / 2)) (lo+n)) (KK κ (mirror (arrOf st) lo (lo+n) ((lo+n - lo) / 2)) (lo+n - 1))
   rw[KK_mirror z1,KK_mirror z1,if_neg (by lia),if_pos ⟨by lia,by lia⟩,show lo+(lo+n) - 1 - (lo+n - 1)=lo by lia]
   exact KeyOrd.kle_trans (KeyOrd.kle_of_klt hd) e
 ·rw[if_neg hg]
  have en:n=1:=by lia
  subst en
  refine conv_ (rest st hB ⟨rfl,fun _ _=>rfl⟩ ?_) (by
    congr 1
    funext _u
    congr 1
    funext r
    obtain⟨a,b,c⟩:=r
    cases a with
    |some a=>rfl
    |none =>
     dsimp only
     split
     ·congr 1
      funext _v
      congr 1
      funext _v
      congr 1
      funext r
      obtain⟨a,b⟩:=r
      cases a<;>rfl
     ·congr 1
      funext _v
      congr 1
      funext r
      obtain⟨a,b⟩:=r
      cases a<;>rfl)
  refine DscR.more (fun p q p1 p2 p3=>?_) (by lia) (KeyOrd.kle_of_klt hd)
  have:p=q:=by lia
  subst this;exact κ.irrefl _
end
end TS
set_option autoImplicit false
set_option maxHeartbeats 4000000
set_option linter.all false
namespace TS
open PySem PyProof.Rows
def gallop':Bool->Keyed->Array Keyed->Nat->Nat->Nat->StateT SortSt Sem (Option Nat):=sortPriv% PySem.Builtin.gallop
section
variable {prog:Program} {w:World} {A:Around} {E:Value->Shared->Prop} {s:Shared} {a₀:Array Keyed} {κ:KeyKind} {kd:SortKind}
theorem wp_elem {arr:Array Keyed}{i:Nat}{x:Keyed}{Q:Keyed->SortSt->Prop}{st:SortSt}(h:arr[i]?=some x)(q:Q x st):wpS (model prog w) A E s (elem' arr i) Q st:=by
 rw[elem'_eq,h]
 exact wpS_pure q
def bey (κ:KeyKind)(left:Bool)(k:κ.α)(arr:Array Keyed)(base i:Nat):Bool:=if left then κ.blt (KK κ arr (base+i)) k else !κ.blt k (KK κ arr (base+i))
theorem gal_bin {P:Nat->Bool}{n:Nat}{st:SortSt}{Q:Option Nat->SortSt->Prop}{f:Nat->Option (Option Nat)×Nat×Nat->StateT SortSt Sem (ForInStep (Option (Option Nat)×Nat×Nat))}{K:Option (Option Nat)×Nat×Nat->StateT SortSt Sem (Option Nat)}(f1:∀x l h,l ≥ h->f x (none,l,h)=pure (ForInStep.done (none,l,h)))(f2:∀x l h,¬l ≥ h->∃(m:StateT SortSt Sem (Option Bool)) (K1:Option Bool->StateT SortSt Sem (ForInStep (Option (Option Nat)×Nat×Nat))),f x (none,l,h)=m>>=K1 /\
   (h<=n->∀Q:Option Bool->SortSt->Prop,Q (some (P (l+(h - l) / 2))) st->wpS (model prog w) A E s m Q st)/\K1 (some true)=pure (ForInStep.yield (none,l+(h - l) / 2+1,h))/\K1 (some false)=pure (ForInStep.yield (none,l,l+(h - l) / 2)))(hK:∀l h,K (none,l,h)=pure (some h))(mono:∀i j,i<=j->j<n->P j=true->P i=true)(hq:∀r,r<=n->(∀i,i<r->P i=true)->(∀i,r<=i->i<n->P i=false)->Q (some r) st){l h:Nat}(hl:l<=h)(hh:h<=n)(p1:∀i,i<l->P i=true)(p2:∀i,h<=i->i<n->P i=false) :
  wpS (model prog w) A E s (forIn [0:n] (none,l,h) f>>=K) Q st:=by
 refine wpS_bind (wpS_mono (wpS_forRange (I:=fun x c st'=>st'=st/\∃l h,c=(none,l,h)/\l<=h/\h<=n/\h - l<=n - x/\(∀i,i<l->P i=true)/\(∀i,h<=i->i<n->P i=false))
  (Q:=fun c st'=>st'=st/\∃l h,c=(none,l,h)/\l=h/\h<=n/\(∀i,i<l->P i=true)/\(∀i,h<=i->i<n->P i=false)) ?_ ?_ ⟨rfl,l,h,rfl,hl,hh,by lia,p1,p2⟩) ?_)
 ·rintro x c st' _ hx ⟨rfl,l,h,rfl,a1,a2,a3,a4,a5⟩
  by_cases hs:l ≥ h
  ·rw[f1 x l h hs]
   exact wpS_pure ⟨rfl,l,h,rfl,by lia,a2,a4,a5⟩
  ·obtain⟨m,K1,e,hm,k1,k2⟩:=f2 x l h hs
   rw[e]
   refine wpS_bind (hm a2 _ ?_)
   cases z:P (l+(h - l) / 2) with
   |true =>
    rw[k1]
    exact wpS_pure ⟨rfl,_,_,rfl,by lia,a2,by lia,fun i hi=>mono i _ (by lia) (by lia) z,a5⟩
   |false =>
    rw[k2]
    refine wpS_pure ⟨rfl,_,_,rfl,by lia,by lia,by lia,a4,fun i i1 i2=>?_⟩
    cases z2:P i with
    |false=>rfl
    |true=>rw[mono _ i i1 i2 z2] at z;cases z
 ·rintro c st' ⟨rfl,l,h,rfl,a1,a2,a3,a4,a5⟩
  exact⟨rfl,l,h,rfl,by lia,a2,a4,a5⟩
 ·rintro c st' ⟨rfl,l,h,rfl,rfl,a2,a4,a5⟩
  rw[hK]
  exact wpS_pure (hq l a2 a4 a5)
theorem wp_gal {st:SortSt}{left:Bool}{key:Keyed}{k:κ.α}{arr:Array Keyed}{base n hint:Nat}{Q:Option Nat->SortSt->Prop}(hO:LtOk prog w A E s κ kd)(hk:kindOf st=kd)(h0:KeysOf κ arr)(kk:κ.keyOf key.1=some k)(hn:base+n<=arr.size)(hh:hint<n)(mono:SrtR κ arr base (base+n))(hq:∀r,r<=n->(∀i,i<r->bey κ left k arr base i=true)->(∀i,r<=i->i<n->bey κ left k arr base i=false)->Q (some r) st):wpS (model prog w) A E s (gallop' left key arr base n hint) Q st:=by
 have mono:∀i j,i<=j->j<n->bey κ left k arr base j=true->bey κ left k arr base i=true:=fun i j i1 i2 e=>by
  have hs:=mono (base+i) (base+j) (by lia) (by lia) (by lia)
  unfold bey at e ⊢
  cases left with
  |true=>exact KeyOrd.klt_of_kle_of_klt hs e
  |false =>
   simp only[Bool.false_eq_true,if_false,Bool.not_eq_true'] at e ⊢
   exact KeyOrd.kle_trans (O:=κ.toKeyOrd) hs e
 have ask:∀i,i<n->∀Q:Option Bool->SortSt->Prop,Q (some (bey κ left k arr base i)) st->wpS (model prog w) A E s (do
   let x <-elem' arr (base+i)
   if left then lt' x key else return (<-lt' key x).map (!·)) Q st:=fun i hi Q q=>by
  obtain⟨x,e1,e2,_⟩:=key_at h0 (i:=base+i) (by lia)
  refine wpS_bind (wp_elem e1 ?_)
  unfold bey at q
  cases left with
  |true=>exact hO x key _ _ st Q e2 kk hk q
  |false=>exact wpS_bind (hO key x _ _ st _ kk e2 hk (wpS_pure q))
 unfold gallop'
 refine wpS_bind (ask hint hh _ ?_)
 cases z:bey κ left k arr base hint with
 |true =>
  dsimp only
  rw[if_pos rfl]
  refine wpS_bind (wpS_mono (wpS_forRange (I:=fun x c st'=>st'=st/\∃a b,c=(none,a,b)/\a<b/\x+1<=b/\a<n - hint/\bey κ left k arr base (hint+a)=true)
   (Q:=fun c st'=>st'=st/\∃a b,c=(none,a,b)/\a<b/\a<n - hint/\bey κ left k arr base (hint+a)=true/\(b<n - hint->bey κ left k arr base (hint+b)=false)) ?_ ?_ ⟨rfl,0,1,rfl,by lia,by lia,by lia,z⟩) ?_)
  ·rintro x c st' _ hx ⟨rfl,a,b,rfl,a1,a2,a3,a4⟩
   dsimp only
   by_cases hs:b ≥ n - hint
   ·rw[if_pos hs]
    exact wpS_pure ⟨rfl,a,b,rfl,a1,a3,a4,fun q=>by lia⟩
   ·rw[if_neg hs]
    refine wpS_bind (ask (hint+b) (by lia) _ ?_)
    cases z2:bey κ left k arr base (hint+b) with
    |true=>exact wpS_pure ⟨rfl,b,2*b+1,rfl,by lia,by lia,by lia,z2⟩
    |false=>exact wpS_pure ⟨rfl,a,b,rfl,a1,a3,a4,fun _=>z2⟩
  ·rintro c st' ⟨rfl,a,b,rfl,a1,a2,a3,a4⟩
   exact⟨rfl,a,b,rfl,a1,a3,a4,fun q=>by lia⟩
  ·rintro c st' ⟨rfl,a,b,rfl,a1,a3,a4,a5⟩
   dsimp only
   refine gal_bin (P:=bey κ left k arr base) (n:=n) (fun x l h hs=>if_pos hs) (fun x l h hs=>⟨_,_,if_neg hs,fun hx Q hQ=>ask _ (by lia) Q hQ,rfl,rfl⟩) (fun l h=>rfl) mono hq (by lia) (by lia) (fun i hi=>mono i (hint+a) (by lia) (by lia) a4) fun i i1 i2=>?_
   cases z2:bey κ left k arr base i with
   |false=>rfl
   |true =>
    by_cases hb:b<n - hint
    ·have:=mono (hint+b) i (by lia) i2 z2
     rw[a5 hb] at this
     cases this
    ·lia
 |false =>
  dsimp only
  rw[if_neg (by decide)]
  refine wpS_bind (wpS_mono (wpS_forRange (I:=fun x c st'=>st'=st/\∃a b,c=(none,a,b)/\a<b/\x+1<=b/\a<=hint/\bey κ left k arr base (hint - a)=false)
   (Q:=fun c st'=>st'=st/\∃a b,c=(none,a,b)/\a<b/\a<=hint/\bey κ left k arr base (hint - a)=false/\(b<=hint->bey κ left k arr base (hint - b)=true)) ?_ ?_ ⟨rfl,0,1,rfl,by lia,by lia,by lia,z⟩) ?_)
  ·rintro x c st' _ hx ⟨rfl,a,b,rfl,a1,a2,a3,a4⟩
   dsimp only
   by_cases hs:b ≥ hint+1
   ·rw[if_pos hs]
    exact wpS_pure ⟨rfl,a,b,rfl,a1,a3,a4,fun q=>by lia⟩
   ·rw[if_neg hs]
    refine wpS_bind (ask (hint - b) (by lia) _ ?_)
    cases z2:bey κ left k arr base (hint - b) with
    |true=>exact wpS_pure ⟨rfl,a,b,rfl,a1,a3,a4,fun _=>z2⟩
    |false=>exact wpS_pure ⟨rfl,b,2*b+1,rfl,by lia,by lia,by lia,z2⟩
  ·rintro c st' ⟨rfl,a,b,rfl,a1,a2,a3,a4⟩
   exact⟨rfl,a,b,rfl,a1,a3,a4,fun q=>by lia⟩
  ·rintro c st' ⟨rfl,a,b,rfl,a1,a3,a4,a5⟩
   dsimp only
   refine gal_bin (P:=bey κ left k arr base) (n:=n) (fun x l h hs=>if_pos hs) (fun x l h hs=>⟨_,_,if_neg hs,fun hx Q hQ=>ask _ (by lia) Q hQ,rfl,rfl⟩) (fun l h=>rfl) mono hq (by lia) (by lia) (fun i hi=>?_) fun i i1 i2=>?_
   ·exact mono i (hint - b) (by lia) (by lia) (a5 (by lia))
   ·cases z2:bey κ left k arr base i with
    |false=>rfl
    |true =>
     have:=mono (hint - a) i (by lia) i2 z2
     rw[a4] at this
     cases this
end
end TS
set_option autoImplicit false
set_option maxHeartbeats 4000000
set_option linter.all false
namespace TS
open PySem PyProof.Rows
section
variable {κ:KeyKind}
abbrev lek (κ:KeyKind)(x y:Keyed):Prop:=κ.kle (kx κ x) (kx κ y)
def SL (κ:KeyKind)(l:List Keyed):Prop:=l.Pairwise (lek κ)
theorem sl_app {l m:List Keyed}:SL κ (l++m)↔SL κ l/\SL κ m/\∀x∈l,∀y∈m,lek κ x y:=List.pairwise_append
structure ML (κ:KeyKind) (all out as bs:List Keyed):Prop where
 perm:(out++as++bs).Perm all
 sa:SL κ (out++as)
 sb:SL κ (out++bs)
theorem ML.pushB {all out as bs:List Keyed}{y:Keyed}(h:ML κ all out as (y::bs))(hy:∀x∈as,lek κ y x):ML κ all (out++[y]) as bs:=by
 obtain⟨a1,a2,a3⟩:=sl_app.mp h.sa
 obtain⟨b1,b2,b3⟩:=sl_app.mp h.sb
 refine⟨List.Perm.trans ?_ h.perm,sl_app.mpr ⟨sl_app.mpr ⟨a1,List.pairwise_singleton _ _,fun x hx z hz=>b3 x hx z (by simp at hz;simp[hz])⟩,a2,fun x hx z hz=>?_⟩,by rw[List.append_assoc];exact h.sb⟩
 ·rw[List.append_assoc,List.append_assoc,List.append_assoc]
  refine List.Perm.append_left out ?_
  exact(List.perm_middle (l₁:=as) (l₂:=bs) (a:=y)).symm
 ·rcases List.mem_append.mp hx with hx|hx
  ·exact a3 x hx z hz
  ·have:x=y:=by simpa using hx
   subst this;exact hy z hz
theorem ML.swap {all out as bs:List Keyed}(h:ML κ all out as bs):ML κ all out bs as:=by
 refine⟨List.Perm.trans ?_ h.perm,h.sb,h.sa⟩
 rw[List.append_assoc,List.append_assoc]
 exact List.Perm.append_left out List.perm_append_comm
theorem ML.pushA {all out as bs:List Keyed}{y:Keyed}(h:ML κ all out (y::as) bs)(hy:∀x∈bs,lek κ y x):ML κ all (out++[y]) as bs:=(h.swap.pushB hy).swap
theorem ML.extB {all:List Keyed}:∀{cs out as bs:List Keyed},ML κ all out as (cs++bs)->(∀y∈cs,∀x∈as,lek κ y x)->ML κ all (out++cs) as bs
 |[],out,as,bs,h,_=>by rw[List.append_nil];exact h
 |c::cs,out,as,bs,h,hy=>by
  have:=ML.extB (cs:=cs) (h.pushB (fun x hx=>hy c (by simp) x hx)) fun y y1=>hy y (by simp[y1])
  rwa[List.append_assoc,List.singleton_append] at this
theorem ML.extA {all cs out as bs:List Keyed}(h:ML κ all out (cs++as) bs)(hy:∀y∈cs,∀x∈bs,lek κ y x):ML κ all (out++cs) as bs:=(h.swap.extB hy).swap
def Dn (κ:KeyKind)(all r:List Keyed):Prop:=r.Perm all/\SL κ r
theorem ML.endB {all out as:List Keyed}(h:ML κ all out as []):Dn κ all (out++as):=⟨by simpa using h.perm,h.sa⟩
theorem ML.endA {all out bs:List Keyed}(h:ML κ all out [] bs):Dn κ all (out++bs):=⟨by simpa using h.perm,h.sb⟩
theorem ML.endS {all out as bs:List Keyed}(h:ML κ all out as bs)(hy:∀y∈bs,∀x∈as,lek κ y x):Dn κ all (out++bs++as):=by
 obtain⟨a1,a2,a3⟩:=sl_app.mp h.sa
 obtain⟨b1,b2,b3⟩:=sl_app.mp h.sb
 refine⟨h.swap.perm,sl_app.mpr ⟨h.sb,a2,fun x hx z hz=>?_⟩⟩
 rcases List.mem_append.mp hx with hx|hx
 ·exact a3 x hx z hz
 ·exact hy x hx z hz
structure MH (κ:KeyKind) (all as bs out:List Keyed):Prop where
 perm:(as++bs++out).Perm all
 sa:SL κ (as++out)
 sb:SL κ (bs++out)
theorem MH.swap {all out as bs:List Keyed}(h:MH κ all as bs out):MH κ all bs as out :=
 ⟨List.Perm.trans (List.Perm.append_right out List.perm_append_comm) h.perm,h.sb,h.sa⟩
theorem MH.pushA {all out as bs:List Keyed}{x:Keyed}(h:MH κ all (as++[x]) bs out)(hx:∀y∈bs,lek κ y x):MH κ all as bs (x::out):=by
 obtain⟨a1,a2,a3⟩:=sl_app.mp h.sa
 obtain⟨b1,b2,b3⟩:=sl_app.mp h.sb
 refine⟨List.Perm.trans ?_ h.perm,by have:=h.sa;rwa[List.append_assoc,List.singleton_append] at this,sl_app.mpr ⟨b1,List.pairwise_cons.mpr ⟨fun z hz=>a3 x (by simp) z hz,b2⟩,fun y hy z hz=>?_⟩⟩
 ·rw[List.append_assoc,List.append_assoc,List.append_assoc,List.singleton_append]
  refine List.Perm.append_left as ?_
  exact(List.perm_middle (l₁:=bs) (l₂:=out) (a:=x))
 ·rcases List.mem_cons.mp hz with rfl|hz
  ·exact hx y hy
  ·exact b3 y hy z hz
theorem MH.pushB {all out as bs:List Keyed}{x:Keyed}(h:MH κ all as (bs++[x]) out)(hx:∀y∈as,lek κ y x):MH κ all as bs (x::out):=(h.swap.pushA hx).swap
theorem MH.extA {all:List Keyed}{bs:List Keyed}:∀{cs:List Keyed} {as out:List Keyed},MH κ all (as++cs) bs out->(∀x∈cs,∀y∈bs,lek κ y x)->MH κ all as bs (cs++out)
 |[],as,out,h,_=>by simpa using h
 |c::cs,as,out,h,hx=>by
  have h2:MH κ all ((as++[c])++cs) bs out:=by rw[List.append_assoc,List.singleton_append];exact h
  exact(MH.extA h2 fun x x1=>hx x (by simp[x1])).pushA fun y hy=>hx c (by simp) y hy
theorem MH.extB {all as bs cs out:List Keyed}(h:MH κ all as (bs++cs) out)(hx:∀x∈cs,∀y∈as,lek κ y x):MH κ all as bs (cs++out):=(h.swap.extA hx).swap
theorem MH.endA {all out bs:List Keyed}(h:MH κ all [] bs out):Dn κ all (bs++out):=⟨by simpa using h.perm,h.sb⟩
theorem MH.endB {all out as:List Keyed}(h:MH κ all as [] out):Dn κ all (as++out):=⟨by simpa using h.perm,h.sa⟩
theorem MH.endS {all out as bs:List Keyed}(h:MH κ all as bs out)(hy:∀y∈bs,∀x∈as,lek κ y x):Dn κ all (bs++as++out):=by
 obtain⟨a1,a2,a3⟩:=sl_app.mp h.sa
 obtain⟨b1,b2,b3⟩:=sl_app.mp h.sb
 refine⟨h.swap.perm,sl_app.mpr ⟨sl_app.mpr ⟨b1,a1,hy⟩,a2,fun x hx z hz=>?_⟩⟩
 rcases List.mem_append.mp hx with hx|hx
 ·exact b3 x hx z hz
 ·exact a3 x hx z hz
theorem drop_at {xs:Array Keyed}{i:Nat}{x:Keyed}(h:xs[i]?=some x):xs.toList.drop i=x::xs.toList.drop (i+1):=by
 obtain⟨h1,h2⟩:=Array.getElem?_eq_some_iff.mp h
 rw[List.drop_eq_getElem_cons (by simpa using h1)]
 simp[h2]
theorem take_at {xs:Array Keyed}{i:Nat}{x:Keyed}(h:xs[i]?=some x):xs.toList.take (i+1)=xs.toList.take i++[x]:=by
 obtain⟨h1,h2⟩:=Array.getElem?_eq_some_iff.mp h
 rw[List.take_succ_eq_append_getElem (by simpa using h1)]
 simp[h2]
theorem drop_cut {xs:Array Keyed}{i k:Nat}(h:i+k<=xs.size):xs.toList.drop i=(xs.extract i (i+k)).toList++xs.toList.drop (i+k):=by
 rw[Array.toList_extract,List.extract_eq_drop_take,show i+k - i=k by lia]
 conv=>lhs;rw[<-List.take_append_drop k (xs.toList.drop i),List.drop_drop]
theorem take_cut {xs:Array Keyed}{i n:Nat}(h:i<=n)(hn:n<=xs.size):xs.toList.take n=xs.toList.take i++(xs.extract i n).toList:=by
 rw[Array.toList_extract,List.extract_eq_drop_take]
 conv=>lhs;rw[<-List.take_append_drop i (xs.toList.take n)]
 rw[List.take_take,Nat.min_eq_left h,List.drop_take]
theorem ext_drop {xs:Array Keyed}{i:Nat}:(xs.extract i xs.size).toList=xs.toList.drop i:=by
 rw[Array.toList_extract,List.extract_eq_drop_take,<-Array.length_toList,<-List.length_drop,List.take_length]
theorem ext_take {xs:Array Keyed}{n:Nat}:(xs.extract 0 n).toList=xs.toList.take n:=by
 rw[Array.toList_extract,List.extract_eq_drop_take];simp
theorem mem_drop {xs:Array Keyed}{i:Nat}{x:Keyed}(h:x∈xs.toList.drop i):∃j,i<=j/\j<xs.size/\KK κ xs j=kx κ x:=by
 obtain⟨j,hj,e⟩:=List.mem_iff_getElem.mp h
 rw[List.length_drop,Array.length_toList] at hj
 refine⟨i+j,by lia,by lia,?_⟩
 rw[List.getElem_drop] at e
 exact KK_at (by rw[Array.getElem?_eq_some_iff];exact⟨by lia,by simpa using e⟩)
theorem mem_ext {xs:Array Keyed}{i n:Nat}{x:Keyed}(hn:n<=xs.size)(h:x∈(xs.extract i n).toList):∃j,i<=j/\j<n/\KK κ xs j=kx κ x:=by
 rw[Array.toList_extract,List.extract_eq_drop_take] at h
 obtain⟨j,hj,e⟩:=List.mem_iff_getElem.mp h
 rw[List.length_take,List.length_drop,Array.length_toList] at hj
 refine⟨i+j,by lia,by lia,?_⟩
 rw[List.getElem_take,List.getElem_drop] at e
 exact KK_at (by rw[Array.getElem?_eq_some_iff];exact⟨by lia,by simpa using e⟩)
theorem mem_take {xs:Array Keyed}{n:Nat}{x:Keyed}(hn:n<=xs.size)(h:x∈xs.toList.take n):∃j,j<n/\KK κ xs j=kx κ x:=by
 obtain⟨j,hj,e⟩:=List.mem_iff_getElem.mp h
 rw[List.length_take,Array.length_toList] at hj
 refine⟨j,by lia,?_⟩
 rw[List.getElem_take] at e
 exact KK_at (by rw[Array.getElem?_eq_some_iff];exact⟨by lia,by simpa using e⟩)
theorem sl_of_srt {xs:Array Keyed}(h:SrtR κ xs 0 xs.size):SL κ xs.toList:=by
 refine List.pairwise_iff_getElem.mpr fun i j hi hj hij=>?_
 rw[Array.length_toList] at hi hj
 have:=h i j (Nat.zero_le _) (by lia) hj
 rw[KK_at (x:=xs[i]) (getElem?_pos xs i hi),KK_at (x:=xs[j]) (getElem?_pos xs j hj)] at this
 simpa using this
end
end TS
set_option autoImplicit false
set_option maxHeartbeats 4000000
set_option linter.all false
namespace TS
open PySem PyProof.Rows
def mergeLo':Array Keyed->Array Keyed->StateT SortSt Sem (Array Keyed):=sortPriv% PySem.Builtin.mergeLo
def mergeHi':Array Keyed->Array Keyed->StateT SortSt Sem (Array Keyed):=sortPriv% PySem.Builtin.mergeHi
def Sm (st st':SortSt):Prop:=arrOf st'=arrOf st/\pendingOf st'=pendingOf st/\kindOf st'=kindOf st/\failedOf st'=failedOf st
theorem Sm.refl (st:SortSt):Sm st st:=⟨rfl,rfl,rfl,rfl⟩
section
variable {κ:KeyKind} {a b out:Array Keyed} {all:List Keyed} {ia ib k:Nat}
abbrev MLa (κ:KeyKind)(a b:Array Keyed)(out:Array Keyed)(ia ib:Nat):Prop:=ML κ (a.toList++b.toList) out.toList (a.toList.drop ia) (b.toList.drop ib)
theorem MLa.dn (h:MLa κ a b out ia ib)(e:ib=b.size\/ia=a.size):Dn κ (a.toList++b.toList) (out++a.extract ia a.size++b.extract ib b.size).toList:=by
 rw[Array.toList_append,Array.toList_append,ext_drop,ext_drop]
 rcases e with rfl|rfl
 ·have e1:b.toList.drop b.size=[]:=by simp
  rw[MLa,e1] at h
  rw[e1,List.append_nil]
  exact h.endB
 ·have e1:a.toList.drop a.size=[]:=by simp
  rw[MLa,e1] at h
  rw[e1,List.append_nil]
  exact h.endA
theorem MLa.last (h:MLa κ a b out ia ib)(e:ia+1=a.size)(hl:∀j,j<b.size->κ.kle (KK κ b j) (KK κ a (a.size - 1))):Dn κ (a.toList++b.toList) (out++b.extract ib b.size++a.extract ia a.size).toList:=by
 rw[Array.toList_append,Array.toList_append,ext_drop,ext_drop]
 refine h.endS fun y hy x hx=>?_
 obtain⟨j,j1,j2,j3⟩:=mem_drop (κ:=κ) hy
 obtain⟨i,i1,i2,i3⟩:=mem_drop (κ:=κ) hx
 unfold lek
 rw[<-j3,<-i3,show i=a.size - 1 by lia]
 exact hl j j2
theorem MLa.pB {y:Keyed}(h:MLa κ a b out ia ib)(sa:SrtR κ a 0 a.size)(e:b[ib]?=some y)(hl:κ.kle (KK κ b ib) (KK κ a ia)):MLa κ a b (out.push y) ia (ib+1):=by
 unfold MLa at h ⊢
 rw[drop_at e] at h
 rw[Array.toList_push]
 refine h.pushB fun x hx=>?_
 obtain⟨i,i1,i2,i3⟩:=mem_drop (κ:=κ) hx
 unfold lek
 rw[<-i3,<-KK_at e]
 exact KeyOrd.kle_trans hl (sa ia i (Nat.zero_le _) i1 i2)
theorem MLa.pA {x:Keyed}(h:MLa κ a b out ia ib)(sb:SrtR κ b 0 b.size)(e:a[ia]?=some x)(hl:κ.kle (KK κ a ia) (KK κ b ib)):MLa κ a b (out.push x) (ia+1) ib:=by
 unfold MLa at h ⊢
 rw[drop_at e] at h
 rw[Array.toList_push]
 refine h.pushA fun y hy=>?_
 obtain⟨i,i1,i2,i3⟩:=mem_drop (κ:=κ) hy
 unfold lek
 rw[<-i3,<-KK_at e]
 exact KeyOrd.kle_trans hl (sb ib i (Nat.zero_le _) i1 i2)
theorem MLa.eA (h:MLa κ a b out ia ib)(sb:SrtR κ b 0 b.size)(hk:ia+k<=a.size)(hl:∀i,i<k->κ.kle (KK κ a (ia+i)) (KK κ b ib)):MLa κ a b (out++a.extract ia (ia+k)) (ia+k) ib:=by
 unfold MLa at h ⊢
 rw[drop_cut hk] at h
 rw[Array.toList_append]
 refine h.extA fun x hx y hy=>?_
 obtain⟨i,i1,i2,i3⟩:=mem_ext (κ:=κ) hk hx
 obtain⟨j,j1,j2,j3⟩:=mem_drop (κ:=κ) hy
 unfold lek
 rw[<-i3,<-j3]
 have:=hl (i - ia) (by lia)
 rw[show ia+(i - ia)=i by lia] at this
 exact KeyOrd.kle_trans this (sb ib j (Nat.zero_le _) j1 j2)
theorem MLa.eB (h:MLa κ a b out ia ib)(sa:SrtR κ a 0 a.size)(hk:ib+k<=b.size)(hl:∀i,i<k->κ.kle (KK κ b (ib+i)) (KK κ a ia)):MLa κ a b (out++b.extract ib (ib+k)) ia (ib+k):=by
 unfold MLa at h ⊢
 rw[drop_cut hk] at h
 rw[Array.toList_append]
 refine h.extB fun y hy x hx=>?_
 obtain⟨j,j1,j2,j3⟩:=mem_ext (κ:=κ) hk hy
 obtain⟨i,i1,i2,i3⟩:=mem_drop (κ:=κ) hx
 unfold lek
 rw[<-i3,<-j3]
 have:=hl (j - ib) (by lia)
 rw[show ib+(j - ib)=j by lia] at this
 exact KeyOrd.kle_trans this (sa ia i (Nat.zero_le _) i1 i2)
end
section
variable {prog:Program} {w:World} {A:Around} {E:Value->Shared->Prop} {s:Shared} {κ:KeyKind} {kd:SortKind}
def setMin':Nat->StateT SortSt Sem Unit:=sortPriv% PySem.Builtin.setMinGallop
theorem wp_min {n:Nat}{st:SortSt}{Q:Unit->SortSt->Prop}(h:∀st',Sm st st'->Q () st'):wpS (model prog w) A E s (setMin' n) Q st :=
 wpS_modify (f:=fun z=>SortSt.mk' (kindOf z) (arrOf z) (pendingOf z) n (failedOf z)) (h _ ⟨rfl,rfl,rfl,rfl⟩)
theorem Sm.trans {a b c:SortSt}(h:Sm a b)(g:Sm b c):Sm a c:=⟨g.1.trans h.1,g.2.1.trans h.2.1,g.2.2.1.trans h.2.2.1,g.2.2.2.trans h.2.2.2⟩
section
variable {β:Type} {R:β->SortSt->Prop} {st:SortSt} {K1:Option Nat->StateT SortSt Sem β} {a b o:Array Keyed} {la lb:Nat}
theorem lo_one (hO:LtOk prog w A E s κ kd)(hk:kindOf st=kd)(ka:KeysOf κ a)(kb:KeysOf κ b)(sa:SrtR κ a 0 a.size)(sb:SrtR κ b 0 b.size)(m:MLa κ a b o la lb)(h1:la+1<a.size)(h2:lb<b.size)(d1:∀k,k > 0->la+k+1=a.size->MLa κ a b (o++a.extract la (la+k)) (la+k) lb->wpS (model prog w) A E s (K1 (some k)) R st)(d2:∀k,k > 0->la+k=a.size->MLa κ a b (o++a.extract la (la+k)) (la+k) lb->wpS (model prog w) A E s (K1 (some k)) R st)(d3:∀k y,k > 0->la+k+1<a.size->b[lb]?=some y->MLa κ a b ((o++a.extract la (la+k)).push y) (la+k) (lb+1)->wpS (model prog w) A E s (K1 (some k)) R st)(d4:∀y,b[lb]?=some y->MLa κ a b (o.push y) la (lb+1)->wpS (model prog w) A E s (K1 (some 0)) R st) :
  wpS (model prog w) A E s (elem' b lb>>=fun y=>gallop' false y a la (a.size - la) 0>>=K1) R st:=by
 obtain⟨y,ey,ky,_⟩:=key_at kb h2
 refine wpS_bind (wp_elem ey (wpS_bind (wp_gal hO hk ka ky (by lia) (by lia) (fun p q p1 p2 p3=>sa p q (Nat.zero_le _) p2 (by lia)) fun k k1 k2 k3=>?_)))
 have k2':∀i,i<k->κ.kle (KK κ a (la+i)) (KK κ b lb):=fun i hi=>by simpa[bey,KeyOrd.kle] using k2 i hi
 have k3':k<a.size - la->κ.kle (KK κ b lb) (KK κ a (la+k)):=fun hi=>by
  have:=k3 k (Nat.le_refl _) hi
  exact KeyOrd.kle_of_klt (by simpa[bey,KeyOrd.klt] using this)
 by_cases c0:k > 0
 ·have m2:=m.eA (k:=k) sb (by lia) k2'
  by_cases c1:la+k+1=a.size
  ·exact d1 k c0 c1 m2
  by_cases c2:la+k=a.size
  ·exact d2 k c0 c2 m2
  exact d3 k y c0 (by lia) ey (m2.pB sa ey (k3' (by lia)))
 ·have e:k=0:=by lia
  subst e
  exact d4 y ey (m.pB sa ey (k3' (by lia)))
theorem lo_two (hO:LtOk prog w A E s κ kd)(hk:kindOf st=kd)(ka:KeysOf κ a)(kb:KeysOf κ b)(sa:SrtR κ a 0 a.size)(sb:SrtR κ b 0 b.size)(m:MLa κ a b o la lb)(h1:la+1<a.size)(h2:lb<b.size)(d1:∀k,k > 0->lb+k=b.size->MLa κ a b (o++b.extract lb (lb+k)) la (lb+k)->wpS (model prog w) A E s (K1 (some k)) R st)(d2:∀k x,k > 0->lb+k<b.size->a[la]?=some x->MLa κ a b ((o++b.extract lb (lb+k)).push x) (la+1) (lb+k)->wpS (model prog w) A E s (K1 (some k)) R st)(d3:∀x,a[la]?=some x->MLa κ a b (o.push x) (la+1) lb->wpS (model prog w) A E s (K1 (some 0)) R st) :
  wpS (model prog w) A E s (elem' a la>>=fun x=>gallop' true x b lb (b.size - lb) 0>>=K1) R st:=by
 obtain⟨x,ex,kx',_⟩:=key_at ka (i:=la) (by lia)
 refine wpS_bind (wp_elem ex (wpS_bind (wp_gal hO hk kb kx' (by lia) (by lia) (fun p q p1 p2 p3=>sb p q (Nat.zero_le _) p2 (by lia)) fun k k1 k2 k3=>?_)))
 have k2':∀i,i<k->κ.kle (KK κ b (lb+i)) (KK κ a la):=fun i hi=>KeyOrd.kle_of_klt (by simpa[bey,KeyOrd.klt] using k2 i hi)
 have k3':k<b.size - lb->κ.kle (KK κ a la) (KK κ b (lb+k)):=fun hi=>by
  have:=k3 k (Nat.le_refl _) hi
  simpa[bey,KeyOrd.kle] using this
 by_cases c0:k > 0
 ·have m2:=m.eB (k:=k) sa (by lia) k2'
  by_cases c1:lb+k=b.size
  ·exact d1 k c0 c1 m2
  exact d2 k x c0 (by lia) ex (m2.pA sb ex (k3' (by lia)))
 ·have e:k=0:=by lia
  subst e
  exact d3 x ex (m.pA sb ex (k3' (by lia)))
end
theorem wp_lo {st:SortSt}{a b:Array Keyed}{Q:Array Keyed->SortSt->Prop}(hO:LtOk prog w A E s κ kd)(hk:kindOf st=kd)(ka:KeysOf κ a)(kb:KeysOf κ b)(sa:SrtR κ a 0 a.size)(sb:SrtR κ b 0 b.size)(na:0<a.size)(nb:0<b.size)(hf:κ.klt (KK κ b 0) (KK κ a 0))(hl:∀j,j<b.size->κ.kle (KK κ b j) (KK κ a (a.size - 1)))(hq:∀r st',Dn κ (a.toList++b.toList) r.toList->Sm st st'->Q r st'):wpS (model prog w) A E s (mergeLo' a b) Q st:=by
 obtain⟨y0,e0,k0,_⟩:=key_at kb nb
 have m0:MLa κ a b #[] 0 0:=⟨by simp,by simpa using sl_of_srt sa,by simpa using sl_of_srt sb⟩
 have m1:MLa κ a b #[y0] 0 1:=m0.pB sa e0 (KeyOrd.kle_of_klt hf)
 unfold mergeLo'
 refine wpS_bind (wp_rule (wpS_bind (wp_elem e0 ?_)))
 by_cases c1:1=b.size
 ·rw[if_pos (by simpa using c1)]
  exact wpS_pure (hq _ _ (m1.dn (.inl c1)) (Sm.refl _))
 rw[if_neg (by simpa using c1)]
 by_cases c2:0+1=a.size
 ·rw[if_pos (by simpa using c2)]
  exact wpS_pure (hq _ _ (m1.last c2 hl) (Sm.refl _))
 rw[if_neg (by simpa using c2)]
 refine wpS_bind (wpS_get ?_)
 refine wpS_bind (wpS_mono (wpS_forRange (I:=fun x c st1=>Sm st st1/\∃out ia ib mg,c=(none,out,ia,ib,mg)/\MLa κ a b out ia ib/\ia+1<a.size/\ib<b.size/\x<=ia+ib)
  (Q:=fun c st1=>Sm st st1/\∃r t,c=(some r,t)/\Dn κ (a.toList++b.toList) r.toList) ?_ ?_ ⟨Sm.refl _,_,_,_,_,rfl,m1,by lia,by lia,by lia⟩) ?_)
 ·rintro x c st1 _ hx ⟨hS,out,ia,ib,mg,rfl,m,g1,g2,g3⟩
  dsimp only
  have hk1:kindOf st1=kd:=hS.2.2.1.trans hk
  refine wpS_bind (wpS_mono (wpS_forRange (I:=fun x1 c st2=>st2=st1/\∃out ja jb ac bc,c=(none,out,ja,jb,ac,bc)/\MLa κ a b out ja jb/\ja+1<a.size/\jb<b.size/\ia+ib+x1<=ja+jb)
   (Q:=fun c st2=>st2=st1/\((∃r t,c=(some r,t)/\Dn κ (a.toList++b.toList) r.toList)\/∃out ja jb ac bc,c=(none,out,ja,jb,ac,bc)/\MLa κ a b out ja jb/\ja+1<a.size/\jb<b.size/\ia+ib+1<=ja+jb)) ?_ ?_ ⟨rfl,out,ia,ib,0,0,rfl,m,g1,g2,by lia⟩) ?_)
  ·rintro x1 c st2 _ hx1 ⟨rfl,o,ja,jb,ac,bc,rfl,m,h1,h2,h3⟩
   dsimp only
   obtain⟨y,ey,ky,_⟩:=key_at kb h2
   obtain⟨x',ex,kx',_⟩:=key_at ka (i:=ja) (by lia)
   refine wpS_bind (wp_elem ey (wpS_bind (wp_elem ex (wpS_bind (hO y x' _ _ _ _ ky kx' hk1 ?_)))))
   cases z:κ.blt (KK κ b jb) (KK κ a ja) with
   |true =>
    dsimp only
    rw[if_pos rfl]
    refine wpS_bind (wp_elem ey ?_)
    have m':=m.pB sa ey (KeyOrd.kle_of_klt z)
    by_cases c1:jb+1=b.size
    ·rw[if_pos (by simpa using c1)]
     exact wpS_pure ⟨rfl,.inl ⟨_,_,rfl,m'.dn (.inl c1)⟩⟩
    ·rw[if_neg (by simpa using c1)]
     split
     ·exact wpS_pure ⟨rfl,.inr ⟨_,_,_,_,_,rfl,m',h1,by lia,by lia⟩⟩
     ·exact wpS_pure ⟨rfl,_,_,_,_,_,rfl,m',h1,by lia,by lia⟩
   |false =>
    dsimp only
    rw[if_neg (by decide)]
    refine wpS_bind (wp_elem ex ?_)
    have m':=m.pA sb ex z
    by_cases c1:ja+1+1=a.size
    ·rw[if_pos (by simpa using c1)]
     exact wpS_pure ⟨rfl,.inl ⟨_,_,rfl,m'.last c1 hl⟩⟩
    ·rw[if_neg (by simpa using c1)]
     split
     ·exact wpS_pure ⟨rfl,.inr ⟨_,_,_,_,_,rfl,m',by lia,h2,by lia⟩⟩
     ·exact wpS_pure ⟨rfl,_,_,_,_,_,rfl,m',by lia,h2,by lia⟩
  ·rintro c st2 ⟨rfl,o,ja,jb,ac,bc,rfl,m,h1,h2,h3⟩
   lia
  ·rintro c st2 ⟨rfl,⟨r,t,rfl,hd⟩|⟨o,ja,jb,ac,bc,rfl,m,h1,h2,h3⟩⟩
   ·exact wpS_pure ⟨hS,r,_,rfl,hd⟩
   dsimp only
   refine wpS_bind (wp_rule (wpS_bind (wpS_mono (wpS_forRange (I:=fun x2 c st3=>Sm st st3/\∃out la lb mg ac bc,c=(none,out,la,lb,mg,ac,bc)/\MLa κ a b out la lb/\la+1<a.size/\lb<b.size/\ja+jb+x2<=la+lb)
    (Q:=fun c st3=>Sm st st3/\((∃r t,c=(some r,t)/\Dn κ (a.toList++b.toList) r.toList)\/∃out la lb mg ac bc,c=(none,out,la,lb,mg,ac,bc)/\MLa κ a b out la lb/\la+1<a.size/\lb<b.size/\ja+jb<=la+lb)) ?_ ?_ ⟨hS,o,ja,jb,_,_,_,rfl,m,h1,h2,by lia⟩) ?_)))
   ·rintro x2 c st3 _ hx2 ⟨hS3,o,la,lb,mg,ac,bc,rfl,m,h1,h2,h3⟩
    dsimp only
    rcases Nat.lt_or_ge 1 mg with cm|cm
    all_goals
     first
      |rw[if_pos (show mg > 1 by lia)]
      |rw[if_neg (show ¬mg > 1 by lia)]
     refine wpS_bind (wp_min fun st4 hS4=>?_)
     have hS4:=hS3.trans hS4
     have hk4:kindOf st4=kd:=hS4.2.2.1.trans hk
     refine lo_one hO hk4 ka kb sa sb m h1 h2 (fun k p1 p2 m1=>?_) (fun k p1 p2 m1=>?_) (fun k y p1 p2 ey m1=>?_) (fun y ey m1=>?_)
     ·dsimp only
      rw[if_pos p1,if_pos (by simpa using p2)]
      exact wpS_pure ⟨hS4,.inl ⟨_,_,rfl,m1.last p2 hl⟩⟩
     ·dsimp only
      rw[if_pos p1,if_neg (by simp;lia),if_pos (by simpa using p2)]
      exact wpS_pure ⟨hS4,.inl ⟨_,_,rfl,m1.dn (.inr p2)⟩⟩
     ·dsimp only
      rw[if_pos p1,if_neg (by simp;lia),if_neg (by simp;lia)]
      refine wpS_bind (wp_elem ey ?_)
      by_cases c1:lb+1=b.size
      ·rw[if_pos (by simpa using c1)]
       exact wpS_pure ⟨hS4,.inl ⟨_,_,rfl,m1.dn (.inl c1)⟩⟩
      rw[if_neg (by simpa using c1)]
      refine lo_two hO hk4 ka kb sa sb m1 p2 (by lia) (fun k2 q1 q2 m2=>?_) (fun k2 x q1 q2 ex m2=>?_) (fun x ex m2=>?_)
      ·dsimp only
       rw[if_pos q1,if_pos (by simpa using q2)]
       exact wpS_pure ⟨hS4,.inl ⟨_,_,rfl,m2.dn (.inl q2)⟩⟩
      ·dsimp only
       rw[if_pos q1,if_neg (by simp;lia)]
       refine wpS_bind (wp_elem ex ?_)
       by_cases c2:la+k+1+1=a.size
       ·rw[if_pos (by simpa using c2)]
        exact wpS_pure ⟨hS4,.inl ⟨_,_,rfl,m2.last c2 hl⟩⟩
       rw[if_neg (by simpa using c2)]
       split
       ·exact wpS_pure ⟨hS4,.inr ⟨_,_,_,_,_,_,rfl,m2,by lia,by lia,by lia⟩⟩
       ·exact wpS_pure ⟨hS4,_,_,_,_,_,_,rfl,m2,by lia,by lia,by lia⟩
      ·dsimp only
       rw[if_neg (by decide)]
       refine wpS_bind (wp_elem ex ?_)
       by_cases c2:la+k+1+1=a.size
       ·rw[if_pos (by simpa using c2)]
        exact wpS_pure ⟨hS4,.inl ⟨_,_,rfl,m2.last c2 hl⟩⟩
       rw[if_neg (by simpa using c2)]
       split
       ·exact wpS_pure ⟨hS4,.inr ⟨_,_,_,_,_,_,rfl,m2,by lia,by lia,by lia⟩⟩
       ·exact wpS_pure ⟨hS4,_,_,_,_,_,_,rfl,m2,by lia,by lia,by lia⟩
     ·dsimp only
      rw[if_neg (by decide)]
      refine wpS_bind (wp_elem ey ?_)
      by_cases c1:lb+1=b.size
      ·rw[if_pos (by simpa using c1)]
       exact wpS_pure ⟨hS4,.inl ⟨_,_,rfl,m1.dn (.inl c1)⟩⟩
      rw[if_neg (by simpa using c1)]
      refine lo_two hO hk4 ka kb sa sb m1 h1 (by lia) (fun k2 q1 q2 m2=>?_) (fun k2 x q1 q2 ex m2=>?_) (fun x ex m2=>?_)
      ·dsimp only
       rw[if_pos q1,if_pos (by simpa using q2)]
       exact wpS_pure ⟨hS4,.inl ⟨_,_,rfl,m2.dn (.inl q2)⟩⟩
      ·dsimp only
       rw[if_pos q1,if_neg (by simp;lia)]
       refine wpS_bind (wp_elem ex ?_)
       by_cases c2:la+1+1=a.size
       ·rw[if_pos (by simpa using c2)]
        exact wpS_pure ⟨hS4,.inl ⟨_,_,rfl,m2.last c2 hl⟩⟩
       rw[if_neg (by simpa using c2)]
       split
       ·exact wpS_pure ⟨hS4,.inr ⟨_,_,_,_,_,_,rfl,m2,by lia,by lia,by lia⟩⟩
       ·exact wpS_pure ⟨hS4,_,_,_,_,_,_,rfl,m2,by lia,by lia,by lia⟩
      ·dsimp only
       rw[if_neg (by decide)]
       refine wpS_bind (wp_elem ex ?_)
       by_cases c2:la+1+1=a.size
       ·rw[if_pos (by simpa using c2)]
        exact wpS_pure ⟨hS4,.inl ⟨_,_,rfl,m2.last c2 hl⟩⟩
       rw[if_neg (by simpa using c2)]
       split
       ·exact wpS_pure ⟨hS4,.inr ⟨_,_,_,_,_,_,rfl,m2,by lia,by lia,by lia⟩⟩
       ·exact wpS_pure ⟨hS4,_,_,_,_,_,_,rfl,m2,by lia,by lia,by lia⟩
   ·rintro c st3 ⟨hS3,o,la,lb,mg,ac,bc,rfl,m,h1,h2,h3⟩
    lia
   ·rintro c st3 ⟨hS3,⟨r,t,rfl,hd⟩|⟨o,la,lb,mg,ac,bc,rfl,m,h1,h2,h3⟩⟩
    ·exact wpS_pure ⟨hS3,r,_,rfl,hd⟩
    dsimp only
    refine wpS_bind (wp_min fun st4 hS4=>wpS_pure ⟨hS3.trans hS4,_,_,_,_,rfl,m,h1,h2,by lia⟩)
 ·rintro c st1 ⟨_,out,ia,ib,mg,rfl,_,g1,g2,g3⟩
  lia
 ·rintro c st1 ⟨h1,r,t,rfl,h2⟩
  exact wpS_pure (hq r st1 h2 h1)
end
end TS
set_option autoImplicit false
set_option maxHeartbeats 4000000
set_option linter.all false
namespace TS
open PySem PyProof.Rows
section
variable {κ:KeyKind} {a b out:Array Keyed} {ia ib k:Nat}
abbrev MHa (κ:KeyKind)(a b:Array Keyed)(out:Array Keyed)(ia ib:Nat):Prop:=MH κ (a.toList++b.toList) (a.toList.take ia) (b.toList.take ib) out.toList.reverse
theorem MHa.dn (h:MHa κ a b out ia ib)(e:ib=0\/ia=0):Dn κ (a.toList++b.toList) (a.extract 0 ia++b.extract 0 ib++out.reverse).toList:=by
 rw[Array.toList_append,Array.toList_append,ext_take,ext_take,Array.toList_reverse]
 rcases e with rfl|rfl
 ·rw[MHa,List.take_zero] at h
  rw[List.take_zero,List.append_nil]
  exact h.endB
 ·rw[MHa,List.take_zero] at h
  rw[List.take_zero,List.nil_append]
  exact h.endA
theorem MHa.first (h:MHa κ a b out ia ib)(ha:ia<=a.size)(hb:0<b.size)(e:ib=1)(sa:SrtR κ a 0 a.size)(hf:κ.klt (KK κ b 0) (KK κ a 0)):Dn κ (a.toList++b.toList) (b.extract 0 ib++a.extract 0 ia++out.reverse).toList:=by
 rw[Array.toList_append,Array.toList_append,ext_take,ext_take,Array.toList_reverse]
 refine h.endS fun y hy x hx=>?_
 obtain⟨j,j1,j2⟩:=mem_take (κ:=κ) (by lia) hy
 obtain⟨i,i1,i2⟩:=mem_take (κ:=κ) ha hx
 unfold lek
 rw[<-j2,<-i2,show j=0 by lia]
 exact KeyOrd.kle_trans (KeyOrd.kle_of_klt hf) (sa 0 i (Nat.zero_le _) (Nat.zero_le _) (by lia))
theorem MHa.pA {x:Keyed}(h:MHa κ a b out (ia+1) ib)(hb:ib<=b.size)(sb:SrtR κ b 0 b.size)(e:a[ia]?=some x)(hl:0<ib->κ.kle (KK κ b (ib - 1)) (KK κ a ia)):MHa κ a b (out.push x) ia ib:=by
 unfold MHa at h ⊢
 rw[take_at e] at h
 rw[Array.toList_push,List.reverse_append]
 refine h.pushA fun y hy=>?_
 obtain⟨j,j1,j2⟩:=mem_take (κ:=κ) hb hy
 unfold lek
 rw[<-j2,<-KK_at e]
 exact KeyOrd.kle_trans (sb j (ib - 1) (Nat.zero_le _) (by lia) (by lia)) (hl (by lia))
theorem MHa.pB {y:Keyed}(h:MHa κ a b out ia (ib+1))(ha:ia<=a.size)(sa:SrtR κ a 0 a.size)(e:b[ib]?=some y)(hl:0<ia->κ.kle (KK κ a (ia - 1)) (KK κ b ib)):MHa κ a b (out.push y) ia ib:=by
 unfold MHa at h ⊢
 rw[take_at e] at h
 rw[Array.toList_push,List.reverse_append]
 refine h.pushB fun x hx=>?_
 obtain⟨j,j1,j2⟩:=mem_take (κ:=κ) ha hx
 unfold lek
 rw[<-j2,<-KK_at e]
 exact KeyOrd.kle_trans (sa j (ia - 1) (Nat.zero_le _) (by lia) (by lia)) (hl (by lia))
theorem MHa.eA (h:MHa κ a b out ia ib)(hb:ib<=b.size)(hb0:0<ib)(sb:SrtR κ b 0 b.size)(hk:k<=ia)(ha:ia<=a.size)(hl:∀i,k<=i->i<ia->κ.kle (KK κ b (ib - 1)) (KK κ a i)):MHa κ a b (out++(a.extract k ia).reverse) k ib:=by
 unfold MHa at h ⊢
 rw[take_cut hk ha] at h
 rw[Array.toList_append,Array.toList_reverse,List.reverse_append,List.reverse_reverse]
 refine h.extA fun x hx y hy=>?_
 obtain⟨i,i1,i2,i3⟩:=mem_ext (κ:=κ) ha hx
 obtain⟨j,j1,j2⟩:=mem_take (κ:=κ) hb hy
 unfold lek
 rw[<-i3,<-j2]
 exact KeyOrd.kle_trans (sb j (ib - 1) (Nat.zero_le _) (by lia) (by lia)) (hl i i1 i2)
theorem MHa.eB (h:MHa κ a b out ia ib)(ha:ia<=a.size)(ha0:0<ia)(sa:SrtR κ a 0 a.size)(hk:k<=ib)(hb:ib<=b.size)(hl:∀i,k<=i->i<ib->κ.kle (KK κ a (ia - 1)) (KK κ b i)):MHa κ a b (out++(b.extract k ib).reverse) ia k:=by
 unfold MHa at h ⊢
 rw[take_cut hk hb] at h
 rw[Array.toList_append,Array.toList_reverse,List.reverse_append,List.reverse_reverse]
 refine h.extB fun y hy x hx=>?_
 obtain⟨i,i1,i2,i3⟩:=mem_ext (κ:=κ) hb hy
 obtain⟨j,j1,j2⟩:=mem_take (κ:=κ) ha hx
 unfold lek
 rw[<-i3,<-j2]
 exact KeyOrd.kle_trans (sa j (ia - 1) (Nat.zero_le _) (by lia) (by lia)) (hl i i1 i2)
end
section
variable {prog:Program} {w:World} {A:Around} {E:Value->Shared->Prop} {s:Shared} {κ:KeyKind} {kd:SortKind}
section
variable {β:Type} {R:β->SortSt->Prop} {st:SortSt} {K1:Option Nat->StateT SortSt Sem β} {a b o:Array Keyed} {la lb:Nat}
theorem hi_one (hO:LtOk prog w A E s κ kd)(hk:kindOf st=kd)(ka:KeysOf κ a)(kb:KeysOf κ b)(sa:SrtR κ a 0 a.size)(sb:SrtR κ b 0 b.size)(m:MHa κ a b o la lb)(h1:0<la)(h1':la<=a.size)(h2:1<lb)(h2':lb<=b.size)(d1:∀k,la - k > 0->k=0->MHa κ a b (o++(a.extract k la).reverse) k lb->wpS (model prog w) A E s (K1 (some k)) R st)(d2:∀k y,la - k > 0->0<k->b[lb - 1]?=some y->MHa κ a b ((o++(a.extract k la).reverse).push y) k (lb - 1)->wpS (model prog w) A E s (K1 (some k)) R st)(d3:∀y,b[lb - 1]?=some y->MHa κ a b (o.push y) la (lb - 1)->wpS (model prog w) A E s (K1 (some la)) R st) :
  wpS (model prog w) A E s (elem' b (lb - 1)>>=fun y=>gallop' false y a 0 la (la - 1)>>=K1) R st:=by
 obtain⟨y,ey,ky,_⟩:=key_at kb (i:=lb - 1) (by lia)
 refine wpS_bind (wp_elem ey (wpS_bind (wp_gal hO hk ka ky (by lia) (by lia) (fun p q p1 p2 p3=>sa p q (Nat.zero_le _) p2 (by lia)) fun k k1 k2 k3=>?_)))
 have k2':∀i,i<k->κ.kle (KK κ a i) (KK κ b (lb - 1)):=fun i hi=>by simpa[bey,KeyOrd.kle] using k2 i hi
 have k3':∀i,k<=i->i<la->κ.kle (KK κ b (lb - 1)) (KK κ a i):=fun i i1 i2=>by
  have:=k3 i i1 i2
  exact KeyOrd.kle_of_klt (by simpa[bey,KeyOrd.klt] using this)
 by_cases c0:la - k > 0
 ·have m2:=m.eA (k:=k) h2' (by lia) sb (by lia) h1' k3'
  by_cases c1:k=0
  ·exact d1 k c0 c1 m2
  refine d2 k y c0 (by lia) ey (MHa.pB ?_ (by lia) sa ey fun _=>k2' (k - 1) (by lia))
  rw[show lb - 1+1=lb by lia];exact m2
 ·have e:k=la:=by lia
  subst e
  refine d3 y ey (MHa.pB ?_ (by lia) sa ey fun _=>k2' (k - 1) (by lia))
  rw[show lb - 1+1=lb by lia];exact m
theorem hi_two (hO:LtOk prog w A E s κ kd)(hk:kindOf st=kd)(ka:KeysOf κ a)(kb:KeysOf κ b)(sa:SrtR κ a 0 a.size)(sb:SrtR κ b 0 b.size)(m:MHa κ a b o la lb)(h1:0<la)(h1':la<=a.size)(h2:1<lb)(h2':lb<=b.size)(d1:∀k,lb - k > 0->k=1->MHa κ a b (o++(b.extract k lb).reverse) la k->wpS (model prog w) A E s (K1 (some k)) R st)(d2:∀k,lb - k > 0->k=0->MHa κ a b (o++(b.extract k lb).reverse) la k->wpS (model prog w) A E s (K1 (some k)) R st)(d3:∀k x,lb - k > 0->1<k->a[la - 1]?=some x->MHa κ a b ((o++(b.extract k lb).reverse).push x) (la - 1) k->wpS (model prog w) A E s (K1 (some k)) R st)(d4:∀x,a[la - 1]?=some x->MHa κ a b (o.push x) (la - 1) lb->wpS (model prog w) A E s (K1 (some lb)) R st) :
  wpS (model prog w) A E s (elem' a (la - 1)>>=fun x=>gallop' true x b 0 lb (lb - 1)>>=K1) R st:=by
 obtain⟨x,ex,kx',_⟩:=key_at ka (i:=la - 1) (by lia)
 refine wpS_bind (wp_elem ex (wpS_bind (wp_gal hO hk kb kx' (by lia) (by lia) (fun p q p1 p2 p3=>sb p q (Nat.zero_le _) p2 (by lia)) fun k k1 k2 k3=>?_)))
 have k2':∀i,i<k->κ.kle (KK κ b i) (KK κ a (la - 1)):=fun i hi=>KeyOrd.kle_of_klt (by simpa[bey,KeyOrd.klt] using k2 i hi)
 have k3':∀i,k<=i->i<lb->κ.kle (KK κ a (la - 1)) (KK κ b i):=fun i i1 i2=>by
  have:=k3 i i1 i2
  simpa[bey,KeyOrd.kle] using this
 by_cases c0:lb - k > 0
 ·have m2:=m.eB (k:=k) h1' h1 sa (by lia) h2' k3'
  by_cases c1:k=1
  ·exact d1 k c0 c1 m2
  by_cases c2:k=0
  ·exact d2 k c0 c2 m2
  refine d3 k x c0 (by lia) ex (MHa.pA ?_ (by lia) sb ex fun _=>k2' (k - 1) (by lia))
  rw[show la - 1+1=la by lia];exact m2
 ·have e:k=lb:=by lia
  subst e
  refine d4 x ex (MHa.pA ?_ (by lia) sb ex fun _=>k2' (k - 1) (by lia))
  rw[show la - 1+1=la by lia];exact m
end
theorem wp_hi {st:SortSt}{a b:Array Keyed}{Q:Array Keyed->SortSt->Prop}(hO:LtOk prog w A E s κ kd)(hk:kindOf st=kd)(ka:KeysOf κ a)(kb:KeysOf κ b)(sa:SrtR κ a 0 a.size)(sb:SrtR κ b 0 b.size)(na:0<a.size)(nb:0<b.size)(hf:κ.klt (KK κ b 0) (KK κ a 0))(hl:∀j,j<b.size->κ.kle (KK κ b j) (KK κ a (a.size - 1)))(hq:∀r st',Dn κ (a.toList++b.toList) r.toList->Sm st st'->Q r st'):wpS (model prog w) A E s (mergeHi' a b) Q st:=by
 obtain⟨x0,e0,k0,_⟩:=key_at ka (i:=a.size - 1) (by lia)
 have m0:MHa κ a b #[] a.size b.size:=by
  have ta:a.toList.take a.size=a.toList:=by rw[<-Array.length_toList,List.take_length]
  have tb:b.toList.take b.size=b.toList:=by rw[<-Array.length_toList,List.take_length]
  have es:(#[]:Array Keyed).toList.reverse=[]:=rfl
  refine⟨?_,?_,?_⟩
  ·rw[ta,tb,es,List.append_nil]
  ·rw[ta,es,List.append_nil];exact sl_of_srt sa
  ·rw[tb,es,List.append_nil];exact sl_of_srt sb
 have m1:MHa κ a b #[x0] (a.size - 1) b.size:=MHa.pA (out:=#[]) (by rw[show a.size - 1+1=a.size by lia];exact m0) (Nat.le_refl _) sb e0 fun _=>hl _ (by lia)
 unfold mergeHi'
 refine wpS_bind (wp_rule (wpS_bind (wp_elem e0 ?_)))
 by_cases c1:a.size - 1=0
 ·rw[if_pos (by simpa using c1)]
  exact wpS_pure (hq _ _ (m1.dn (.inr c1)) (Sm.refl _))
 rw[if_neg (by simpa using c1)]
 by_cases c2:b.size=1
 ·rw[if_pos (by simpa using c2)]
  exact wpS_pure (hq _ _ (m1.first (by lia) nb c2 sa hf) (Sm.refl _))
 rw[if_neg (by simpa using c2)]
 refine wpS_bind (wpS_get ?_)
 refine wpS_bind (wpS_mono (wpS_forRange (I:=fun x c st1=>Sm st st1/\∃ia ib out mg,c=(none,ia,ib,out,mg)/\MHa κ a b out ia ib/\0<ia/\ia<=a.size/\1<ib/\ib<=b.size/\x+(ia+ib)<=a.size+b.size)
  (Q:=fun c st1=>Sm st st1/\∃r t,c=(some r,t)/\Dn κ (a.toList++b.toList) r.toList) ?_ ?_ ⟨Sm.refl _,_,_,_,_,rfl,m1,by lia,by lia,by lia,by lia,by lia⟩) ?_)
 ·rintro x c st1 _ hx ⟨hS,ia,ib,out,mg,rfl,m,g1,g1',g2,g2',g3⟩
  dsimp only
  have hk1:kindOf st1=kd:=hS.2.2.1.trans hk
  refine wpS_bind (wpS_mono (wpS_forRange (I:=fun x1 c st2=>st2=st1/\∃ja jb out ac bc,c=(none,ja,jb,out,ac,bc)/\MHa κ a b out ja jb/\0<ja/\ja<=a.size/\1<jb/\jb<=b.size/\x1+(ja+jb)<=ia+ib)
   (Q:=fun c st2=>st2=st1/\((∃r t,c=(some r,t)/\Dn κ (a.toList++b.toList) r.toList)\/∃ja jb out ac bc,c=(none,ja,jb,out,ac,bc)/\MHa κ a b out ja jb/\0<ja/\ja<=a.size/\1<jb/\jb<=b.size/\1+(ja+jb)<=ia+ib)) ?_ ?_ ⟨rfl,ia,ib,out,0,0,rfl,m,g1,g1',g2,g2',by lia⟩) ?_)
  ·rintro x1 c st2 _ hx1 ⟨rfl,ja,jb,o,ac,bc,rfl,m,h1,h1',h2,h2',h3⟩
   dsimp only
   obtain⟨y,ey,ky,_⟩:=key_at kb (i:=jb - 1) (by lia)
   obtain⟨x',ex,kx',_⟩:=key_at ka (i:=ja - 1) (by lia)
   refine wpS_bind (wp_elem ey (wpS_bind (wp_elem ex (wpS_bind (hO y x' _ _ _ _ ky kx' hk1 ?_)))))
   cases z:κ.blt (KK κ b (jb - 1)) (KK κ a (ja - 1)) with
   |true =>
    dsimp only
    rw[if_pos rfl]
    refine wpS_bind (wp_elem ex ?_)
    have m':MHa κ a b (o.push x') (ja - 1) jb:=MHa.pA (by rw[show ja - 1+1=ja by lia];exact m) h2' sb ex fun _=>KeyOrd.kle_of_klt z
    by_cases c1:ja - 1=0
    ·rw[if_pos (by simpa using c1)]
     exact wpS_pure ⟨rfl,.inl ⟨_,_,rfl,m'.dn (.inr c1)⟩⟩
    ·rw[if_neg (by simpa using c1)]
     split
     ·exact wpS_pure ⟨rfl,.inr ⟨_,_,_,_,_,rfl,m',by lia,by lia,h2,h2',by lia⟩⟩
     ·exact wpS_pure ⟨rfl,_,_,_,_,_,rfl,m',by lia,by lia,h2,h2',by lia⟩
   |false =>
    dsimp only
    rw[if_neg (by decide)]
    refine wpS_bind (wp_elem ey ?_)
    have m':MHa κ a b (o.push y) ja (jb - 1):=MHa.pB (by rw[show jb - 1+1=jb by lia];exact m) h1' sa ey fun _=>z
    by_cases c1:jb - 1=1
    ·rw[if_pos (by simpa using c1)]
     exact wpS_pure ⟨rfl,.inl ⟨_,_,rfl,m'.first h1' nb c1 sa hf⟩⟩
    ·rw[if_neg (by simpa using c1)]
     split
     ·exact wpS_pure ⟨rfl,.inr ⟨_,_,_,_,_,rfl,m',h1,h1',by lia,by lia,by lia⟩⟩
     ·exact wpS_pure ⟨rfl,_,_,_,_,_,rfl,m',h1,h1',by lia,by lia,by lia⟩
  ·rintro c st2 ⟨rfl,ja,jb,o,ac,bc,rfl,m,h1,h1',h2,h2',h3⟩
   lia
  ·rintro c st2 ⟨rfl,⟨r,t,rfl,hd⟩|⟨ja,jb,o,ac,bc,rfl,m,h1,h1',h2,h2',h3⟩⟩
   ·exact wpS_pure ⟨hS,r,_,rfl,hd⟩
   dsimp only
   refine wpS_bind (wp_rule (wpS_bind (wpS_mono (wpS_forRange (I:=fun x2 c st3=>Sm st st3/\∃la lb out mg ac bc,c=(none,la,lb,out,mg,ac,bc)/\MHa κ a b out la lb/\0<la/\la<=a.size/\1<lb/\lb<=b.size/\x2+(la+lb)<=ja+jb)
    (Q:=fun c st3=>Sm st st3/\((∃r t,c=(some r,t)/\Dn κ (a.toList++b.toList) r.toList)\/∃la lb out mg ac bc,c=(none,la,lb,out,mg,ac,bc)/\MHa κ a b out la lb/\0<la/\la<=a.size/\1<lb/\lb<=b.size/\la+lb<=ja+jb)) ?_ ?_ ⟨hS,ja,jb,o,_,_,_,rfl,m,h1,h1',h2,h2',by lia⟩) ?_)))
   ·rintro x2 c st3 _ hx2 ⟨hS3,la,lb,o,mg,ac,bc,rfl,m,h1,h1',h2,h2',h3⟩
    dsimp only
    rcases Nat.lt_or_ge 1 mg with cm|cm
    all_goals
     first
      |rw[if_pos (show mg > 1 by lia)]
      |rw[if_neg (show ¬mg > 1 by lia)]
     refine wpS_bind (wp_min fun st4 hS4=>?_)
     have hS4:=hS3.trans hS4
     have hk4:kindOf st4=kd:=hS4.2.2.1.trans hk
     refine hi_one hO hk4 ka kb sa sb m h1 h1' h2 h2' (fun k p1 p2 m1=>?_) (fun k y p1 p2 ey m1=>?_) (fun y ey m1=>?_)
     ·dsimp only
      rw[if_pos p1,if_pos (by simpa using p2)]
      exact wpS_pure ⟨hS4,.inl ⟨_,_,rfl,m1.dn (.inr p2)⟩⟩
     ·dsimp only
      rw[if_pos p1,if_neg (by simp;lia)]
      refine wpS_bind (wp_elem ey ?_)
      by_cases c1:lb - 1=1
      ·rw[if_pos (by simpa using c1)]
       exact wpS_pure ⟨hS4,.inl ⟨_,_,rfl,m1.first (by lia) nb c1 sa hf⟩⟩
      rw[if_neg (by simpa using c1)]
      refine hi_two hO hk4 ka kb sa sb m1 p2 (by lia) (by lia) (by lia) (fun k2 q1 q2 m2=>?_) (fun k2 q1 q2 m2=>?_) (fun k2 x q1 q2 ex m2=>?_) (fun x ex m2=>?_)
      ·dsimp only
       rw[if_pos q1,if_pos (by simpa using q2)]
       exact wpS_pure ⟨hS4,.inl ⟨_,_,rfl,m2.first (by lia) nb q2 sa hf⟩⟩
      ·dsimp only
       rw[if_pos q1,if_neg (by simp;lia),if_pos (by simpa using q2)]
       exact wpS_pure ⟨hS4,.inl ⟨_,_,rfl,m2.dn (.inl q2)⟩⟩
      ·dsimp only
       rw[if_pos q1,if_neg (by simp;lia),if_neg (by simp;lia)]
       refine wpS_bind (wp_elem ex ?_)
       by_cases c2:k - 1=0
       ·rw[if_pos (by simpa using c2)]
        exact wpS_pure ⟨hS4,.inl ⟨_,_,rfl,m2.dn (.inr c2)⟩⟩
       rw[if_neg (by simpa using c2)]
       split
       ·exact wpS_pure ⟨hS4,.inr ⟨_,_,_,_,_,_,rfl,m2,by lia,by lia,by lia,by lia,by lia⟩⟩
       ·exact wpS_pure ⟨hS4,_,_,_,_,_,_,rfl,m2,by lia,by lia,by lia,by lia,by lia⟩
      ·dsimp only
       rw[if_neg (by lia)]
       refine wpS_bind (wp_elem ex ?_)
       by_cases c2:k - 1=0
       ·rw[if_pos (by simpa using c2)]
        exact wpS_pure ⟨hS4,.inl ⟨_,_,rfl,m2.dn (.inr c2)⟩⟩
       rw[if_neg (by simpa using c2)]
       split
       ·exact wpS_pure ⟨hS4,.inr ⟨_,_,_,_,_,_,rfl,m2,by lia,by lia,by lia,by lia,by lia⟩⟩
       ·exact wpS_pure ⟨hS4,_,_,_,_,_,_,rfl,m2,by lia,by lia,by lia,by lia,by lia⟩
     ·dsimp only
      rw[if_neg (by lia)]
      refine wpS_bind (wp_elem ey ?_)
      by_cases c1:lb - 1=1
      ·rw[if_pos (by simpa using c1)]
       exact wpS_pure ⟨hS4,.inl ⟨_,_,rfl,m1.first (by lia) nb c1 sa hf⟩⟩
      rw[if_neg (by simpa using c1)]
      refine hi_two hO hk4 ka kb sa sb m1 h1 (by lia) (by lia) (by lia) (fun k2 q1 q2 m2=>?_) (fun k2 q1 q2 m2=>?_) (fun k2 x q1 q2 ex m2=>?_) (fun x ex m2=>?_)
      ·dsimp only
       rw[if_pos q1,if_pos (by simpa using q2)]
       exact wpS_pure ⟨hS4,.inl ⟨_,_,rfl,m2.first (by lia) nb q2 sa hf⟩⟩
      ·dsimp only
       rw[if_pos q1,if_neg (by simp;lia),if_pos (by simpa using q2)]
       exact wpS_pure ⟨hS4,.inl ⟨_,_,rfl,m2.dn (.inl q2)⟩⟩
      ·dsimp only
       rw[if_pos q1,if_neg (by simp;lia),if_neg (by simp;lia)]
       refine wpS_bind (wp_elem ex ?_)
       by_cases c2:la - 1=0
       ·rw[if_pos (by simpa using c2)]
        exact wpS_pure ⟨hS4,.inl ⟨_,_,rfl,m2.dn (.inr c2)⟩⟩
       rw[if_neg (by simpa using c2)]
       split
       ·exact wpS_pure ⟨hS4,.inr ⟨_,_,_,_,_,_,rfl,m2,by lia,by lia,by lia,by lia,by lia⟩⟩
       ·exact wpS_pure ⟨hS4,_,_,_,_,_,_,rfl,m2,by lia,by lia,by lia,by lia,by lia⟩
      ·dsimp only
       rw[if_neg (by lia)]
       refine wpS_bind (wp_elem ex ?_)
       by_cases c2:la - 1=0
       ·rw[if_pos (by simpa using c2)]
        exact wpS_pure ⟨hS4,.inl ⟨_,_,rfl,m2.dn (.inr c2)⟩⟩
       rw[if_neg (by simpa using c2)]
       split
       ·exact wpS_pure ⟨hS4,.inr ⟨_,_,_,_,_,_,rfl,m2,by lia,by lia,by lia,by lia,by lia⟩⟩
       ·exact wpS_pure ⟨hS4,_,_,_,_,_,_,rfl,m2,by lia,by lia,by lia,by lia,by lia⟩
   ·rintro c st3 ⟨hS3,la,lb,o,mg,ac,bc,rfl,m,h1,h1',h2,h2',h3⟩
    lia
   ·rintro c st3 ⟨hS3,⟨r,t,rfl,hd⟩|⟨la,lb,o,mg,ac,bc,rfl,m,h1,h1',h2,h2',h3⟩⟩
    ·exact wpS_pure ⟨hS3,r,_,rfl,hd⟩
    dsimp only
    refine wpS_bind (wp_min fun st4 hS4=>wpS_pure ⟨hS3.trans hS4,_,_,_,_,rfl,m,h1,h1',h2,h2',by lia⟩)
 ·rintro c st1 ⟨_,ia,ib,out,mg,rfl,_,g1,g1',g2,g2',g3⟩
  lia
 ·rintro c st1 ⟨h1,r,t,rfl,h2⟩
  exact wpS_pure (hq r st1 h2 h1)
end
end TS
set_option autoImplicit false
set_option maxHeartbeats 4000000
set_option linter.all false
namespace TS
open PySem PyProof.Rows
section
variable {κ:KeyKind}
theorem put_at {l:List Keyed}:∀{xs:Array Keyed} {P M T:List Keyed} {n j:Nat},xs.toList=P++M++T->P.length=n+j->M.length=l.length ->
  ((l.zipIdx j).foldl (fun a x=>a.setIfInBounds (n+x.2) x.1) xs).toList=P++l++T:=by
 induction l with
 |nil =>
  intro xs P M T n j e hP hM
  have:M=[]:=List.eq_nil_of_length_eq_zero hM
  subst this
  simpa using e
 |cons x l ih =>
  intro xs P M T n j e hP hM
  cases M with
  |nil=>simp at hM
  |cons y M =>
   rw[List.zipIdx_cons,List.foldl_cons]
   have e2:(xs.setIfInBounds (n+j) x).toList=(P++[x])++M++T:=by
    rw[Array.toList_setIfInBounds,e,<-hP]
    simp
   have:=ih (j:=j+1) (n:=n) e2 (by simp;lia) (by simpa using hM)
   rw[this]
   simp
theorem KK_list {xs:Array Keyed}{i:Nat}:KK κ xs i=match xs.toList[i]? with
  |some p=>kx κ p
  |none=>κ.dflt:=by
 unfold KK kx
 rw[Array.getElem?_toList]
 cases xs[i]?<;>rfl
theorem KK_out {xs ys:Array Keyed}{P M M' T:List Keyed}(h:xs.toList=P++M++T)(h':ys.toList=P++M'++T)(hl:M'.length=M.length){q:Nat}(hq:q<P.length\/P.length+M.length<=q):KK κ ys q=KK κ xs q:=by
 rw[KK_list,KK_list,h,h']
 have:(P++M'++T)[q]?=(P++M++T)[q]?:=by
  rcases hq with hq|hq
  ·rw[List.append_assoc,List.append_assoc,List.getElem?_append_left hq,List.getElem?_append_left hq]
  ·rw[List.getElem?_append_right (by rw[List.length_append];lia),List.getElem?_append_right (by rw[List.length_append];lia),List.length_append,List.length_append,hl]
 rw[this]
theorem srt_mid {xs:Array Keyed}{P M T:List Keyed}(h:xs.toList=P++M++T)(hs:SL κ M):SrtR κ xs P.length (P.length+M.length):=fun p q h1 h2 h3=>by
 by_cases e:p=q
 ·subst e;exact κ.irrefl _
 have g:∀r,P.length<=r->r<P.length+M.length->∃hr:r - P.length<M.length,KK κ xs r=kx κ M[r - P.length]:=fun r r1 r2=>by
  refine⟨by lia,?_⟩
  rw[KK_list,h,List.append_assoc,List.getElem?_append_right r1,List.getElem?_append_left (by lia),List.getElem?_eq_getElem (by lia)]
 obtain⟨a1,a2⟩:=g p h1 (by lia)
 obtain⟨b1,b2⟩:=g q (by lia) h3
 rw[a2,b2]
 exact List.pairwise_iff_getElem.mp hs _ _ a1 b1 (by lia)
theorem KK_ext {xs:Array Keyed}{i n j:Nat}(hj:j<n - i)(hn:n<=xs.size):KK κ (xs.extract i n) j=KK κ xs (i+j):=by
 refine KK_congr ?_
 rw[Array.getElem?_extract,if_pos (by lia)]
theorem ext_size {xs:Array Keyed}{i n:Nat}(hn:n<=xs.size):(xs.extract i n).size=n - i:=by
 rw[Array.size_extract,Nat.min_eq_left hn]
theorem ext_srt {xs:Array Keyed}{i n lo hi:Nat}(hn:n<=xs.size)(h:SrtR κ xs lo hi)(h1:lo<=i)(h2:n<=hi):SrtR κ (xs.extract i n) 0 (xs.extract i n).size:=fun p q p1 p2 p3=>by
 rw[ext_size hn] at p3
 rw[KK_ext (by lia) hn,KK_ext (by lia) hn]
 exact h _ _ (by lia) (by lia) (by lia)
theorem keys_ext {xs:Array Keyed}{i n:Nat}(h:KeysOf κ xs):KeysOf κ (xs.extract i n):=fun p hp=>by
 refine h p ?_
 rw[Array.toList_extract,List.extract_eq_drop_take] at hp
 exact List.mem_of_mem_drop (List.mem_of_mem_take hp)
theorem cut3 {xs:Array Keyed}{i j:Nat}(h:i<=j)(hj:j<=xs.size):xs.toList=(xs.extract 0 i).toList++(xs.extract i j).toList++(xs.extract j xs.size).toList:=by
 rw[ext_take,<-take_cut h hj,<-take_cut hj (Nat.le_refl _),<-Array.length_toList,List.take_length]
theorem ext_cat {xs:Array Keyed}{i j k:Nat}(h:i<=j)(h2:j<=k)(hk:k<=xs.size):(xs.extract i k).toList=(xs.extract i j).toList++(xs.extract j k).toList:=by
 have e1:=take_cut (xs:=xs) h (by lia)
 have e2:=take_cut (xs:=xs) h2 hk
 have e3:=take_cut (xs:=xs) (Nat.le_trans h h2) hk
 rw[e2,e1,List.append_assoc] at e3
 exact(List.append_cancel_left e3).symm
theorem ext_len {xs:Array Keyed}{i n:Nat}(hn:n<=xs.size):(xs.extract i n).toList.length=n - i:=by rw[Array.length_toList,ext_size hn]
theorem sl_ext {xs:Array Keyed}{i n:Nat}(hn:n<=xs.size)(h:SrtR κ xs i n):SL κ (xs.extract i n).toList:=sl_of_srt (ext_srt hn h (Nat.le_refl _) (Nat.le_refl _))
theorem merged {xs ys r:Array Keyed}{sa na nb k m:Nat}(hz:sa+na+nb<=xs.size)(hk:k<=na)(hm:m<=nb)(s1:SrtR κ xs sa (sa+na))(s2:SrtR κ xs (sa+na) (sa+na+nb))(hna:k<na)(hnb:0<m)(g1:∀i,i<k->κ.kle (KK κ xs (sa+i)) (KK κ xs (sa+na)))(g3:∀i,m<=i->i<nb->κ.kle (KK κ xs (sa+na - 1)) (KK κ xs (sa+na+i)))(hr:Dn κ ((xs.extract (sa+k) (sa+na)).toList++(xs.extract (sa+na) (sa+na+m)).toList) r.toList)(hy:ys.toList=(xs.extract 0 (sa+k)).toList++r.toList++(xs.extract (sa+na+m) xs.size).toList) :
  ys.Perm xs/\SrtR κ ys sa (sa+na+nb)/\∀q,q<sa\/sa+na+nb<=q->KK κ ys q=KK κ xs q:=by
 have c1:=ext_cat (xs:=xs) (i:=sa+k) (j:=sa+na) (k:=sa+na+m) (by lia) (by lia) (by lia)
 have ex:=cut3 (xs:=xs) (i:=sa+k) (j:=sa+na+m) (by lia) (by lia)
 have p1:ys.Perm xs:=by
  refine Array.perm_iff_toList_perm.mpr ?_
  rw[hy,ex,c1]
  exact List.Perm.append_right _ (List.Perm.append_left _ hr.1)
 have e1:=ext_cat (xs:=xs) (i:=0) (j:=sa) (k:=sa+k) (by lia) (by lia) (by lia)
 have e2:=ext_cat (xs:=xs) (i:=sa+na+m) (j:=sa+na+nb) (k:=xs.size) (by lia) (by lia) (by lia)
 have hy2:ys.toList=(xs.extract 0 sa).toList++((xs.extract sa (sa+k)).toList++r.toList++(xs.extract (sa+na+m) (sa+na+nb)).toList)++(xs.extract (sa+na+nb) xs.size).toList:=by
  rw[hy,e1,e2]
  simp only[List.append_assoc]
 have lr:r.toList.length=(na - k)+m:=by
  rw[hr.1.length_eq,List.length_append,ext_len (by lia),ext_len (by lia)]
  lia
 have lm:((xs.extract sa (sa+k)).toList++r.toList++(xs.extract (sa+na+m) (sa+na+nb)).toList).length=na+nb:=by
  rw[List.length_append,List.length_append,lr,ext_len (by lia),ext_len (by lia)]
  lia
 have l0:(xs.extract 0 sa).toList.length=sa:=by rw[ext_len (by lia)];lia
 have hx2:=cut3 (xs:=xs) (i:=sa) (j:=sa+na+nb) (by lia) (by lia)
 refine⟨p1,?_,fun q hq=>KK_out hx2 hy2 (by rw[lm,ext_len (by lia)];lia) (by rw[l0,ext_len (by lia)];lia)⟩
 have key:SL κ ((xs.extract sa (sa+k)).toList++r.toList++(xs.extract (sa+na+m) (sa+na+nb)).toList):=by
  have mr:∀x∈r.toList,(∃j,sa+k<=j/\j<sa+na/\KK κ xs j=kx κ x)\/∃j,sa+na<=j/\j<sa+na+m/\KK κ xs j=kx κ x:=fun x hx=>by
   rcases List.mem_append.mp (hr.1.mem_iff.mp hx) with h|h
   ·exact .inl (mem_ext (by lia) h)
   ·exact .inr (mem_ext (by lia) h)
  refine sl_app.mpr ⟨sl_app.mpr ⟨sl_ext (by lia) fun p q h1 h2 h3=>s1 p q h1 h2 (by lia),hr.2,fun x hx y hy=>?_⟩,sl_ext (by lia) fun p q h1 h2 h3=>s2 p q (by lia) h2 h3,fun x hx y hy=>?_⟩
  ·obtain⟨i,i1,i2,i3⟩:=mem_ext (κ:=κ) (by lia) hx
   have g:=g1 (i - sa) (by lia)
   rw[show sa+(i - sa)=i by lia] at g
   unfold lek
   rcases mr y hy with⟨j,j1,j2,j3⟩|⟨j,j1,j2,j3⟩
   ·rw[<-i3,<-j3];exact s1 i j i1 (by lia) j2
   ·rw[<-i3,<-j3];exact KeyOrd.kle_trans g (s2 _ j (Nat.le_refl _) j1 (by lia))
  ·obtain⟨j,j1,j2,j3⟩:=mem_ext (κ:=κ) (by lia) hy
   have g:=g3 (j - (sa+na)) (by lia) (by lia)
   rw[show sa+na+(j - (sa+na))=j by lia] at g
   unfold lek
   rcases List.mem_append.mp hx with hx|hx
   ·obtain⟨i,i1,i2,i3⟩:=mem_ext (κ:=κ) (by lia) hx
    rw[<-i3,<-j3];exact KeyOrd.kle_trans (s1 i (sa+na - 1) i1 (by lia) (by lia)) g
   ·rcases mr x hx with⟨i,i1,i2,i3⟩|⟨i,i1,i2,i3⟩
    ·rw[<-i3,<-j3];exact KeyOrd.kle_trans (s1 i (sa+na - 1) (by lia) (by lia) (by lia)) g
    ·rw[<-i3,<-j3];exact s2 i j i1 (by lia) (by lia)
 have:=srt_mid hy2 key
 rw[l0,lm] at this
 rwa[show sa+(na+nb)=sa+na+nb by lia] at this
end
section
variable {prog:Program} {w:World} {A:Around} {E:Value->Shared->Prop} {s:Shared} {a₀:Array Keyed} {κ:KeyKind} {kd:SortKind}
abbrev pend2 (p:Array (Nat×Nat×Nat))(i sa n pw:Nat):Array (Nat×Nat×Nat):=(p.setIfInBounds i (sa,n,pw)).eraseIdxIfInBounds (i+1)
theorem wp_set {st st1:SortSt}{Q:PUnit->SortSt->Prop}(h:Q ⟨⟩ st1):wpS (model prog w) A E s (set st1:StateT SortSt Sem PUnit) Q st:=by
 unfold wpS
 rw[StateT.run_set]
 exact wpAny_pure ⟨rfl,h⟩
theorem wp_at {st:SortSt}{i sa na pw nb pw2:Nat}{Q:Bool->SortSt->Prop}(hO:LtOk prog w A E s κ kd)(h0:KeysOf κ a₀)(hB:SB kd a₀ st)(q1:(pendingOf st)[i]?=some (sa,na,pw))(q2:(pendingOf st)[i+1]?=some (sa+na,nb,pw2))(hz:sa+na+nb<=a₀.size)(h1:0<na)(h2:0<nb)(s1:SrtR κ (arrOf st) sa (sa+na))(s2:SrtR κ (arrOf st) (sa+na) (sa+na+nb))(h:∀st',SB kd a₀ st'->pendingOf st'=pend2 (pendingOf st) i sa (na+nb) pw->SrtR κ (arrOf st') sa (sa+na+nb)->(∀q,q<sa\/sa+na+nb<=q->KK κ (arrOf st') q=KK κ (arrOf st) q)->Q true st') :
  wpS (model prog w) A E s (mergeAt' i) Q st:=by
 have ks:=keys_of h0 hB.perm
 have hz':sa+na+nb<=(arrOf st).size:=by rw[hB.size];exact hz
 have zA:sa+na<=(arrOf st).size:=by lia
 obtain⟨y,ey,ky,_⟩:=key_at ks (i:=sa+na) (by lia)
 obtain⟨x,ex,kx',_⟩:=key_at ks (i:=sa+na - 1) (by lia)
 unfold mergeAt'
 refine wpS_bind (wpS_get ?_)
 rw[show((pendingOf st)[i]?,(pendingOf st)[i+1]?)=(some (sa,na,pw),some (sa+na,nb,pw2)) by rw[q1,q2]]
 dsimp only
 refine wpS_bind (wp_set (wpS_bind (wp_elem ey (wpS_bind (wp_gal hO hB.kind ks ky zA h1 s1 fun k k1 k2 k3=>?_)))))
 have k2':∀i,i<k->κ.kle (KK κ (arrOf st) (sa+i)) (KK κ (arrOf st) (sa+na)):=fun i hi=>by simpa[bey,KeyOrd.kle] using k2 i hi
 have k3':∀i,k<=i->i<na->κ.klt (KK κ (arrOf st) (sa+na)) (KK κ (arrOf st) (sa+i)):=fun i i1 i2=>by simpa[bey,KeyOrd.klt] using k3 i i1 i2
 have whole:κ.kle (KK κ (arrOf st) (sa+na - 1)) (KK κ (arrOf st) (sa+na))->SrtR κ (arrOf st) sa (sa+na+nb):=fun hh p q p1 p2 p3=>by
  by_cases c1:q<sa+na
  ·exact s1 p q p1 p2 c1
  by_cases c2:sa+na<=p
  ·exact s2 p q c2 p2 p3
  exact KeyOrd.kle_trans (s1 p (sa+na - 1) p1 (by lia) (by lia)) (KeyOrd.kle_trans hh (s2 (sa+na) q (Nat.le_refl _) (by lia) p3))
 dsimp only
 by_cases c1:na - k=0
 ·rw[if_pos (by simpa using c1)]
  refine wpS_pure (h _ ⟨hB.perm,hB.kind,hB.failed⟩ rfl (whole ?_) fun _ _=>rfl)
  have:=k2' (na - 1) (by lia)
  rwa[show sa+(na - 1)=sa+na - 1 by lia] at this
 rw[if_neg (by simpa using c1)]
 rw[show sa+k+(na - k) - 1=sa+na - 1 by lia]
 refine wpS_bind (wp_elem ex (wpS_bind (wp_gal hO hB.kind ks kx' hz' (by lia) s2 fun m m1 m2 m3=>?_)))
 have m2':∀i,i<m->κ.kle (KK κ (arrOf st) (sa+na+i)) (KK κ (arrOf st) (sa+na - 1)):=fun i hi=>KeyOrd.kle_of_klt (by simpa[bey,KeyOrd.klt] using m2 i hi)
 have m3':∀i,m<=i->i<nb->κ.kle (KK κ (arrOf st) (sa+na - 1)) (KK κ (arrOf st) (sa+na+i)):=fun i i1 i2=>by simpa[bey,KeyOrd.kle] using m3 i i1 i2
 dsimp only
 by_cases c2:m=0
 ·rw[if_pos (by simpa using c2)]
  refine wpS_pure (h _ ⟨hB.perm,hB.kind,hB.failed⟩ rfl (whole ?_) fun _ _=>rfl)
  exact m3' 0 (by lia) h2
 rw[if_neg (by simpa using c2)]
 have zx:=ext_size (xs:=arrOf st) (i:=sa+k) (n:=sa+na) (by lia)
 have zy:=ext_size (xs:=arrOf st) (i:=sa+na) (n:=sa+na+m) (by lia)
 have zB:sa+na+m<=(arrOf st).size:=by lia
 have nx:0<((arrOf st).extract (sa+k) (sa+na)).size:=by lia
 have ny:0<((arrOf st).extract (sa+na) (sa+na+m)).size:=by lia
 have hf:κ.klt (KK κ ((arrOf st).extract (sa+na) (sa+na+m)) 0) (KK κ ((arrOf st).extract (sa+k) (sa+na)) 0):=by
  rw[KK_ext (by lia) (by lia),KK_ext (by lia) (by lia)]
  exact k3' k (Nat.le_refl _) (by lia)
 have hl:∀j,j<((arrOf st).extract (sa+na) (sa+na+m)).size->κ.kle (KK κ ((arrOf st).extract (sa+na) (sa+na+m)) j) (KK κ ((arrOf st).extract (sa+k) (sa+na)) (((arrOf st).extract (sa+k) (sa+na)).size - 1)):=fun j hj=>by
  rw[zy] at hj
  rw[zx,KK_ext (by lia) (by lia),KK_ext (by lia) (by lia),show sa+k+(sa+na - (sa+k) - 1)=sa+na - 1 by lia]
  exact m2' j (by lia)
 have fin:∀(r:Array Keyed) (st1 st2:SortSt),Dn κ (((arrOf st).extract (sa+k) (sa+na)).toList++((arrOf st).extract (sa+na) (sa+na+m)).toList) r.toList->kindOf st1=kindOf st->failedOf st1=failedOf st->arrOf st1=arrOf st->pendingOf st1=pend2 (pendingOf st) i sa (na+nb) pw->Sm st1 st2 ->
   Q (failedOf st2).isNone (setArr st2 (r.toList.zipIdx.foldl (fun a x=>a.setIfInBounds (sa+k+x.2) x.1) (arrOf st2))):=fun r st1 st2 hr e1 e2 e3 e4 hS=>by
  have lr:r.toList.length=(na - k)+m:=by
   rw[hr.1.length_eq,List.length_append,ext_len (by lia),ext_len (by lia)]
   lia
  have e5:arrOf st2=arrOf st:=hS.1.trans e3
  have hy:=put_at (l:=r.toList) (n:=sa+k) (j:=0) (cut3 (xs:=arrOf st) (i:=sa+k) (j:=sa+na+m) (by lia) (by lia)) (by rw[ext_len (by lia)];lia) (by rw[lr,ext_len (by lia)];lia)
  obtain⟨p1,p2,p3⟩:=merged hz' k1 m1 s1 s2 (by lia) (by lia) k2' m3' hr hy
  have ef:(failedOf st2).isNone=true:=by rw[hS.2.2.2,e2,hB.failed];rfl
  rw[ef,e5]
  exact h _ ⟨p1.trans hB.perm,hS.2.2.1.trans (e1.trans hB.kind),hS.2.2.2.trans (e2.trans hB.failed)⟩ (hS.2.1.trans e4) p2 p3
 by_cases c3:na - k<=m
 ·rw[if_pos c3]
  refine wpS_bind (wp_lo hO hB.kind (keys_ext ks) (keys_ext ks) (ext_srt zA s1 (by lia) (by lia)) (ext_srt zB s2 (by lia) (by lia)) nx ny hf hl fun r st2 hr hS=>?_)
  exact wpS_bind (wpS_modify (wpS_bind (wpS_get (wpS_pure (fin r (SortSt.mk' (kindOf st) (arrOf st) (pend2 (pendingOf st) i sa (na+nb) pw) (gallopOf st) (failedOf st)) st2 hr rfl rfl rfl rfl hS)))))
 ·rw[if_neg c3]
  refine wpS_bind (wp_hi hO hB.kind (keys_ext ks) (keys_ext ks) (ext_srt zA s1 (by lia) (by lia)) (ext_srt zB s2 (by lia) (by lia)) nx ny hf hl fun r st2 hr hS=>?_)
  exact wpS_bind (wpS_modify (wpS_bind (wpS_get (wpS_pure (fin r (SortSt.mk' (kindOf st) (arrOf st) (pend2 (pendingOf st) i sa (na+nb) pw) (gallopOf st) (failedOf st)) st2 hr rfl rfl rfl rfl hS)))))
end
end TS
set_option autoImplicit false
set_option maxHeartbeats 4000000
set_option linter.all false
namespace TS
open PySem PyProof.Rows
abbrev Pn:=Nat×Nat×Nat
section
variable {κ:KeyKind}
def Ch (κ:KeyKind)(xs:Array Keyed):Nat->List Pn->Nat->Prop
 |b,[],e=>b=e
 |b,(a,n,_)::r,e=>a=b/\0<n/\SrtR κ xs b (b+n)/\Ch κ xs (b+n) r e
theorem Ch.le {xs:Array Keyed}:∀{l:List Pn} {b e:Nat},Ch κ xs b l e->b+l.length<=e
 |[],b,e,h=>by unfold Ch at h;simp;lia
 |(a,n,w)::r,b,e,h=>by
  unfold Ch at h
  obtain⟨_,h2,_,h4⟩:=h
  have:=h4.le
  rw[List.length_cons]
  lia
theorem Ch.app {xs:Array Keyed}:∀{l m:List Pn} {b e:Nat},Ch κ xs b (l++m) e↔∃c,Ch κ xs b l c/\Ch κ xs c m e
 |[],m,b,e=>⟨fun h=>⟨b,rfl,h⟩,fun⟨c,h1,h2⟩=>by unfold Ch at h1;subst h1;exact h2⟩
 |(a,n,w)::r,m,b,e=>by
  have ih:=@Ch.app xs r m (b+n) e
  constructor
  ·rintro⟨h1,h2,h3,h4⟩
   obtain⟨c,h4,h5⟩:=ih.mp h4
   exact⟨c,⟨h1,h2,h3,h4⟩,h5⟩
  ·rintro⟨c,⟨h1,h2,h3,h4⟩,h5⟩
   exact⟨h1,h2,h3,ih.mpr ⟨c,h4,h5⟩⟩
theorem Ch.keep {xs ys:Array Keyed}:∀{l:List Pn} {b e:Nat},Ch κ xs b l e->(∀q,b<=q->q<e->KK κ ys q=KK κ xs q)->Ch κ ys b l e
 |[],b,e,h,_=>h
 |(a,n,w)::r,b,e,h,k=>by
  unfold Ch at h ⊢
  obtain⟨h1,h2,h3,h4⟩:=h
  have:=h4.le
  refine⟨h1,h2,fun p q p1 p2 p3=>?_,h4.keep fun q q1 q2=>k q (by lia) q2⟩
  rw[k p (by lia) (by lia),k q (by lia) (by lia)]
  exact h3 p q p1 p2 p3
theorem Ch.proj {xs:Array Keyed}:∀{l m:List Pn} {b e:Nat},Ch κ xs b l e->m.map (fun t=>(t.1,t.2.1))=l.map (fun t=>(t.1,t.2.1))->Ch κ xs b m e
 |[],[],b,e,h,_=>h
 |(a,n,w)::r,(a',n',w')::r',b,e,h,k=>by
  rw[List.map_cons,List.map_cons] at k
  injection k with k1 k2
  have k3:a'=a:=(Prod.mk.inj k1).1
  have k4:n'=n:=(Prod.mk.inj k1).2
  subst k3 k4
  unfold Ch at h ⊢
  exact⟨h.1,h.2.1,h.2.2.1,h.2.2.2.proj k2⟩
 |[],_::_,_,_,_,k=>by simp at k
 |_::_,[],_,_,_,k=>by simp at k
theorem two_at {p:Array Pn}{i:Nat}{u v:Pn}(h1:p[i]?=some u)(h2:p[i+1]?=some v):∃l m,p.toList=l++u::v::m/\l.length=i:=by
 obtain⟨a1,a2⟩:=Array.getElem?_eq_some_iff.mp h1
 obtain⟨b1,b2⟩:=Array.getElem?_eq_some_iff.mp h2
 refine⟨p.toList.take i,p.toList.drop (i+2),?_,by simp;lia⟩
 conv=>lhs;rw[<-List.take_append_drop i p.toList]
 rw[List.drop_eq_getElem_cons (by simpa using a1),List.drop_eq_getElem_cons (by simpa using b1)]
 simp[a2,b2]
theorem pend2_list {p:Array Pn}{l m:List Pn}{i sa n pw:Nat}{u v:Pn}(h:p.toList=l++u::v::m)(hl:l.length=i):(pend2 p i sa n pw).toList=l++(sa,n,pw)::m:=by
 have hs:i+1<p.size:=by
  rw[<-Array.length_toList,h,List.length_append,List.length_cons,List.length_cons]
  lia
 unfold pend2
 rw[Array.eraseIdxIfInBounds,dif_pos (by simpa using hs),Array.toList_eraseIdx,Array.toList_setIfInBounds,h,<-hl]
 simp[List.eraseIdx_append_of_length_le]
end
section
variable {prog:Program} {w:World} {A:Around} {E:Value->Shared->Prop} {s:Shared} {a₀:Array Keyed} {κ:KeyKind} {kd:SortKind}
theorem wp_chain {st:SortSt}{i lo:Nat}{Q:Bool->SortSt->Prop}(hO:LtOk prog w A E s κ kd)(h0:KeysOf κ a₀)(hB:SB kd a₀ st)(hc:Ch κ (arrOf st) 0 (pendingOf st).toList lo)(hlo:lo<=a₀.size)(hi:i+1<(pendingOf st).size)(h:∀st',SB kd a₀ st'->Ch κ (arrOf st') 0 (pendingOf st').toList lo->(pendingOf st').size+1=(pendingOf st).size->(∀q,lo<=q->KK κ (arrOf st') q=KK κ (arrOf st) q)->Q true st'):wpS (model prog w) A E s (mergeAt' i) Q st:=by
 obtain⟨⟨sa,na,pw⟩,e1⟩:∃u,(pendingOf st)[i]?=some u:=⟨_,getElem?_pos _ i (by lia)⟩
 obtain⟨⟨sb,nb,pw2⟩,e2⟩:∃u,(pendingOf st)[i+1]?=some u:=⟨_,getElem?_pos _ (i+1) hi⟩
 obtain⟨l,m,el,hl⟩:=two_at e1 e2
 rw[el] at hc
 obtain⟨c,hc1,hc2⟩:=Ch.app.mp hc
 unfold Ch at hc2
 obtain⟨f1,f2,f3,hc2⟩:=hc2
 unfold Ch at hc2
 obtain⟨f4,f5,f6,hc3⟩:=hc2
 subst f1 f4
 have z:=hc3.le
 have z1:=hc1.le
 refine wp_at hO h0 hB e1 e2 (by lia) f2 f5 f3 f6 fun st' b1 b2 b3 b4=>h st' b1 ?_ ?_ fun q hq=>b4 q (.inr (by lia))
 ·rw[b2,pend2_list el hl]
  refine Ch.app.mpr ⟨sa,hc1.keep fun q q1 q2=>b4 q (.inl q2),?_⟩
  unfold Ch
  rw[<-Nat.add_assoc]
  exact⟨rfl,by lia,b3,hc3.keep fun q q1 q2=>b4 q (.inr q1)⟩
 ·have n1:(pendingOf st').size=l.length+1+m.length:=by
   rw[b2,<-Array.length_toList,pend2_list el hl,List.length_append,List.length_cons]
   lia
  have n2:(pendingOf st).size=l.length+2+m.length:=by
   rw[<-Array.length_toList,el,List.length_append,List.length_cons,List.length_cons]
   lia
  lia
theorem mod_proj {l:List Pn}{i pw:Nat}:(l.modify i fun x=>(x.1,x.2.1,pw)).map (fun t=>(t.1,t.2.1))=l.map (fun t=>(t.1,t.2.1)):=by
 refine List.ext_getElem? fun j=>?_
 rw[List.getElem?_map,List.getElem?_map,List.getElem?_modify]
 cases l[j]? with
 |none=>rfl
 |some x =>
  by_cases h:i=j
  ·simp[h]
  ·simp[h]
theorem wp_runs {st:SortSt}{Q:Unit->SortSt->Prop}(hO:LtOk prog w A E s κ kd)(h0:KeysOf κ a₀)(hB:SB kd a₀ st)(hp:pendingOf st=#[])(h2:0<a₀.size)(h:∀st',SB kd a₀ st'->SrtR κ (arrOf st') 0 a₀.size->Q () st'):wpS (model prog w) A E s sortRuns' Q st:=by
 rw[sortRuns'_eq]
 refine wpS_bind (wpS_get ?_)
 dsimp only
 rw[show(arrOf st).size=a₀.size from hB.size]
 have psh:∀(st':SortSt) (lo n:Nat),0<n->Ch κ (arrOf st') 0 (pendingOf st').toList lo->SrtR κ (arrOf st') lo (lo+n)->Ch κ (arrOf st') 0 ((pendingOf st').push (lo,n,0)).toList (lo+n):=fun st' lo n b4 c2 c3=>by
  rw[Array.toList_push]
  exact Ch.app.mpr ⟨lo,c2,by unfold Ch;exact⟨rfl,b4,c3,rfl⟩⟩
 have next:∀(st1:SortSt) (lo n pw:Nat) (R:ForInStep (Option Unit×Nat)->SortSt->Prop)
   (f:Nat->Option Unit×Unit->StateT SortSt Sem (ForInStep (Option Unit×Unit))) (K1:Option Unit×Unit->StateT SortSt Sem (ForInStep (Option Unit×Nat))),
   SB kd a₀ st1->Ch κ (arrOf st1) 0 (pendingOf st1).toList lo->lo+n<=a₀.size->0<n->SrtR κ (arrOf st1) lo (lo+n) ->
   (∀st',SB kd a₀ st'->Ch κ (arrOf st') 0 (pendingOf st').toList (lo+n)->R (.yield (none,lo+n)) st') ->
   (∀x,∃g:SortSt->StateT SortSt Sem (ForInStep (Option Unit×Unit)),f x (none,())=(get>>=g) /\
    (∀z,(if(pendingOf z).size > 1 then(pendingOf z)[(pendingOf z).size - 2]? else none)=none->g z=pure (ForInStep.done (none,()))) /\
    (∀z u1 u2 older,(if(pendingOf z).size > 1 then(pendingOf z)[(pendingOf z).size - 2]? else none)=some (u1,u2,older)->g z=if older<=pw then pure (ForInStep.done (none,())) else(mergeAt' ((pendingOf z).size - 2)>>=fun v=>if(!v)=true then pure (ForInStep.done (some (),())) else pure (ForInStep.yield (none,()))))) ->
   K1 (none,())=(do
     modify fun s=>setPending s ((pendingOf s).modify ((pendingOf s).size - 1) fun x=>(x.1,x.2.1,pw))
     modify fun s=>setPending s ((pendingOf s).push (lo,n,0))
     pure (ForInStep.yield (none,lo+n))) ->
   wpS (model prog w) A E s (forIn [0:a₀.size] (none,()) f>>=K1) R st1:=by
  intro st1 lo n pw R f K1 b1 b2 b3 b4 b5 hR k4 k5
  refine wpS_bind (wpS_mono (wpS_forRange (I:=fun x c st2=>c=(none,())/\SB kd a₀ st2/\Ch κ (arrOf st2) 0 (pendingOf st2).toList lo/\SrtR κ (arrOf st2) lo (lo+n))
   (Q:=fun c st2=>c=(none,())/\SB kd a₀ st2/\Ch κ (arrOf st2) 0 (pendingOf st2).toList lo/\SrtR κ (arrOf st2) lo (lo+n)) ?_ ?_ ⟨rfl,b1,b2,b5⟩) ?_)
  ·rintro x c st2 _ hx ⟨rfl,c1,c2,c3⟩
   obtain⟨g,g1,g2,g3⟩:=k4 x
   rw[g1]
   refine wpS_bind (wpS_get ?_)
   by_cases hs:(pendingOf st2).size > 1
   ·obtain⟨⟨u1,u2,older⟩,eu⟩:∃u,(pendingOf st2)[(pendingOf st2).size - 2]?=some u:=⟨_,getElem?_pos _ _ (by lia)⟩
    rw[g3 st2 u1 u2 older (by rw[if_pos hs,eu])]
    by_cases ho:older<=pw
    ·rw[if_pos ho]
     exact wpS_pure ⟨rfl,c1,c2,c3⟩
    ·rw[if_neg ho]
     refine wpS_bind (wp_chain hO h0 c1 c2 (by lia) (by lia) fun st3 d1 d2 d3 d4=>wpS_pure ⟨rfl,d1,d2,fun p q p1 p2 p3=>?_⟩)
     rw[d4 p p1,d4 q (by lia)]
     exact c3 p q p1 p2 p3
   ·rw[g2 st2 (by rw[if_neg hs])]
    exact wpS_pure ⟨rfl,c1,c2,c3⟩
  ·rintro c st2 ⟨rfl,c1,c2,c3⟩
   exact⟨rfl,c1,c2,c3⟩
  ·rintro c st2 ⟨rfl,c1,c2,c3⟩
   rw[k5]
   refine wpS_bind (wpS_modify (wpS_bind (wpS_modify (wpS_pure (hR _ ⟨c1.perm,c1.kind,c1.failed⟩ ?_)))))
   refine psh (setPending st2 ((pendingOf st2).modify ((pendingOf st2).size - 1) fun x=>(x.1,x.2.1,pw))) lo n b4 ?_ c3
   refine Ch.proj c2 ?_
   change (((pendingOf st2).modify ((pendingOf st2).size - 1) fun x=>(x.1,x.2.1,pw)).toList).map _=_
   rw[Array.toList_modify]
   exact mod_proj
 refine wpS_bind (wpS_mono (wpS_forRange (I:=fun x c st1=>∃lo,c=(none,lo)/\SB kd a₀ st1/\Ch κ (arrOf st1) 0 (pendingOf st1).toList lo/\lo<=a₀.size/\x<=lo)
  (Q:=fun c st1=>∃lo,c=(none,lo)/\SB kd a₀ st1/\Ch κ (arrOf st1) 0 (pendingOf st1).toList a₀.size) ?_ ?_ ⟨0,rfl,hB,by rw[hp];rfl,Nat.zero_le _,Nat.zero_le _⟩) ?_)
 ·rintro x c st1 _ hx ⟨lo,rfl,b1,b2,b3,b4⟩
  dsimp only
  by_cases c1:lo ≥ a₀.size
  ·rw[if_pos c1]
   exact wpS_pure ⟨lo,rfl,b1,by rw[show a₀.size=lo by lia];exact b2⟩
  rw[if_neg c1]
  refine wpS_bind (wp_count hO h0 (by lia) (by lia) b1 fun n st2 d1 d2 d3 d4 d5=>?_)
  dsimp only
  have ch2:Ch κ (arrOf st2) 0 (pendingOf st2).toList lo:=by
   rw[d2.1]
   exact b2.keep fun q _ q2=>d2.2 q q2
  by_cases c2:n<minRun' a₀.size a₀.size 0
  ·rw[if_pos c2]
   refine wpS_bind (wp_rule (wpS_bind (wp_bin hO h0 (n:=min (a₀.size - lo) (minRun' a₀.size a₀.size 0)) (by lia) (by lia) d1 d5 fun st3 e1 e2 e3 e4=>?_)))
   rw[if_neg (by decide)]
   have ch3:Ch κ (arrOf st3) 0 (pendingOf st3).toList lo:=by
    rw[e2]
    exact ch2.keep fun q _ q2=>e3 q q2
   refine wpS_bind (wpS_get ?_)
   cases hb:(pendingOf st3).back? with
   |none =>
    exact wpS_bind (wpS_modify (wpS_pure ⟨_,rfl,⟨e1.perm,e1.kind,e1.failed⟩,psh st3 lo _ (by lia) ch3 e4,by lia,by lia⟩))
   |some t =>
    obtain⟨t1,t2,t3⟩:=t
    dsimp only
    refine next st3 lo _ _ _ _ _ e1 ch3 (by lia) (by lia) e4 (fun st' f1 f2=>⟨_,rfl,f1,f2,by lia,by lia⟩) (fun x=>⟨_,rfl,fun z hz=>by rw[hz],fun z u1 u2 older hz=>by rw[hz]⟩) rfl
  ·rw[if_neg c2]
   refine wpS_bind (wpS_get ?_)
   cases hb:(pendingOf st2).back? with
   |none =>
    exact wpS_bind (wpS_modify (wpS_pure ⟨_,rfl,⟨d1.perm,d1.kind,d1.failed⟩,psh st2 lo _ (by lia) ch2 d5,by lia,by lia⟩))
   |some t =>
    obtain⟨t1,t2,t3⟩:=t
    dsimp only
    refine next st2 lo _ _ _ _ _ d1 ch2 (by lia) (by lia) d5 (fun st' f1 f2=>⟨_,rfl,f1,f2,by lia,by lia⟩) (fun x=>⟨_,rfl,fun z hz=>by rw[hz],fun z u1 u2 older hz=>by rw[hz]⟩) rfl
 ·rintro c st1 ⟨lo,rfl,b1,b2,b3,b4⟩
  exact⟨lo,rfl,b1,by rw[show a₀.size=lo by lia];exact b2⟩
 ·rintro c st1 ⟨lo,rfl,b1,b2⟩
  dsimp only
  have b0:=b2.le
  rw[Array.length_toList] at b0
  refine wpS_bind (wpS_mono (wpS_forRange (I:=fun x c st2=>c=(none,())/\SB kd a₀ st2/\Ch κ (arrOf st2) 0 (pendingOf st2).toList a₀.size/\(pendingOf st2).size+x<=a₀.size)
   (Q:=fun c st2=>c=(none,())/\SB kd a₀ st2/\SrtR κ (arrOf st2) 0 a₀.size) ?_ ?_ ⟨rfl,b1,b2,by lia⟩) ?_)
  ·rintro x c st2 _ hx ⟨rfl,c1,c2,c3⟩
   refine wpS_bind (wpS_get ?_)
   by_cases d1:(pendingOf st2).size<=1
   ·rw[if_pos d1]
    refine wpS_pure ⟨rfl,c1,?_⟩
    rw[<-Array.length_toList] at d1
    cases el:(pendingOf st2).toList with
    |nil =>
     rw[el] at c2
     unfold Ch at c2
     lia
    |cons u r =>
     rw[el] at d1 c2
     have:r=[]:=List.eq_nil_of_length_eq_zero (by simpa using d1)
     subst this
     obtain⟨u1,u2,u3⟩:=u
     unfold Ch at c2
     obtain⟨f1,f2,f3,f4⟩:=c2
     unfold Ch at f4
     rw[<-f4]
     exact f3
   ·rw[if_neg d1]
    have hi:∀v:Bool,(if v=true then(pendingOf st2).size - 2 - 1 else(pendingOf st2).size - 2)+1<(pendingOf st2).size:=fun v=>by
     cases v
     ·rw[if_neg (by decide)];lia
     ·rw[if_pos rfl];lia
    refine wpS_bind (wp_chain hO h0 c1 c2 (Nat.le_refl _) (hi _) fun st3 e1 e2 e3 e4=>wpS_pure ⟨rfl,e1,e2,by lia⟩)
  ·rintro c st2 ⟨rfl,c1,c2,c3⟩
   have:=c2.le
   rw[show max 0 a₀.size=a₀.size by lia] at c3
   have e0:(pendingOf st2).size=0:=by lia
   rw[<-Array.length_toList] at e0
   rw[List.eq_nil_of_length_eq_zero e0] at c2
   unfold Ch at c2
   lia
  ·rintro c st2 ⟨rfl,c1,c2⟩
   exact wpS_pure (h st2 c1 c2)
end
end TS
set_option maxHeartbeats 4000000
set_option linter.all false
set_option maxRecDepth 100000
namespace DL
open PySem PySem.Spec PyProof.Rows L2 PySem.W
def ltK:Key->Key->Bool
 |.inl a,.inl b=>decide (a<b)
 |.inr a,.inr b=>decide (a.cps.toList<b.cps.toList)
 |.inl _,.inr _=>true
 |.inr _,.inl _=>false
theorem ltK_tri (a b:Key):(ltK a b=true/\ltK b a=false/\a≠b)\/(a=b/\ltK a b=false/\ltK b a=false)\/(ltK a b=false/\ltK b a=true/\a≠b):=by
 cases a with
 |inl a =>
  cases b with
  |inl b =>
   unfold ltK
   simp only[decide_eq_true_eq,decide_eq_false_iff_not,ne_eq,Sum.inl.injEq]
   lia
  |inr b=>exact .inl ⟨rfl,rfl,by simp⟩
 |inr a =>
  cases b with
  |inl b=>exact .inr (.inr ⟨rfl,rfl,by simp⟩)
  |inr b =>
   by_cases h:a.cps.toList<b.cps.toList
   ·have h2:¬b.cps.toList<a.cps.toList:=fun z=>List.lt_irrefl _ (List.lt_trans h z)
    refine .inl ⟨decide_eq_true h,decide_eq_false h2,fun e=>?_⟩
    cases e
    exact List.lt_irrefl _ h
   ·by_cases h2:b.cps.toList<a.cps.toList
    ·refine .inr (.inr ⟨decide_eq_false h,decide_eq_true h2,fun e=>?_⟩)
     cases e
     exact List.lt_irrefl _ h2
    ·have e:a.cps.toList=b.cps.toList:=List.le_antisymm (List.not_lt.mp h2) (List.not_lt.mp h)
     have e:a=b:=by
      obtain⟨a⟩:=a
      obtain⟨b⟩:=b
      have:a=b:=Array.toList_inj.mp e
      rw[this]
     exact .inr (.inl ⟨by rw[e],decide_eq_false h,decide_eq_false h2⟩)
theorem ltK_trans {a b c:Key}(h:ltK a b=true)(h2:ltK b c=true):ltK a c=true:=by
 cases a with
 |inl a =>
  cases b with
  |inl b =>
   cases c with
   |inl c =>
    have h:a<b:=of_decide_eq_true h
    have h2:b<c:=of_decide_eq_true h2
    exact decide_eq_true (by lia)
   |inr c=>rfl
  |inr b =>
   cases c with
   |inl c=>cases h2
   |inr c=>rfl
 |inr a =>
  cases b with
  |inl b=>cases h
  |inr b =>
   cases c with
   |inl c=>cases h2
   |inr c=>exact decide_eq_true (List.lt_trans (of_decide_eq_true h) (of_decide_eq_true h2))
def lexK:List Key->List Key->Bool
 |[],[]=>false
 |[],_::_=>true
 |_::_,[]=>false
 |a::r,b::s=>if a=b then lexK r s else ltK a b
theorem lexK_irr:∀a:List Key,lexK a a=false
 |[]=>rfl
 |a::r=>by unfold lexK;rw[if_pos rfl];exact lexK_irr r
theorem lexK_total:∀a b:List Key,lexK a b=false->lexK b a=false->a=b
 |[],[],_,_=>rfl
 |[],_::_,h,_=>by cases h
 |_::_,[],_,h=>by cases h
 |a::r,b::s,h,h2=>by
  unfold lexK at h h2
  rcases ltK_tri a b with⟨t1,t2,t3⟩|⟨rfl,t2,t3⟩|⟨t1,t2,t3⟩
  ·rw[if_neg t3,t1] at h;cases h
  ·rw[if_pos rfl] at h h2
   rw[lexK_total r s h h2]
  ·rw[if_neg (Ne.symm t3),t2] at h2;cases h2
theorem lexK_trans:∀a b c:List Key,lexK a b=true->lexK b c=true->lexK a c=true
 |[],[],_,h,_=>by cases h
 |[],_::_,[],_,h=>by cases h
 |[],_::_,_::_,_,_=>rfl
 |_::_,[],_,h,_=>by cases h
 |_::_,_::_,[],_,h=>by cases h
 |a::r,b::s,c::t,h,h2=>by
  unfold lexK at h h2 ⊢
  rcases ltK_tri a b with⟨t1,t2,t3⟩|⟨rfl,t2,t3⟩|⟨t1,t2,t3⟩
  ·rcases ltK_tri b c with⟨u1,u2,u3⟩|⟨rfl,u2,u3⟩|⟨u1,u2,u3⟩
   ·have h3:=ltK_trans t1 u1
    rw[if_neg fun e=>?_]
    ·exact h3
    ·subst e
     rcases ltK_tri a a with⟨_,_,z⟩|⟨_,z,_⟩|⟨_,_,z⟩
     ·exact z rfl
     ·rw[z] at h3;cases h3
     ·exact z rfl
   ·rw[if_neg t3];exact t1
   ·rw[if_neg u3,u1] at h2;cases h2
  ·rw[if_pos rfl] at h
   rcases ltK_tri a c with⟨u1,u2,u3⟩|⟨rfl,u2,u3⟩|⟨u1,u2,u3⟩
   ·rw[if_neg u3];exact u1
   ·rw[if_pos rfl] at h2 ⊢
    exact lexK_trans r s t h h2
   ·rw[if_neg u3,u1] at h2;cases h2
  ·rw[if_neg t3,t1] at h;cases h
theorem lexK_neg (a b c:List Key)(h:lexK a c=true):lexK a b=true\/lexK b c=true:=by
 cases h1:lexK a b with
 |true=>exact .inl rfl
 |false =>
  right
  cases h2:lexK b a with
  |true=>exact lexK_trans b a c h2 h
  |false=>rw[<-lexK_total a b h1 h2];exact h
def atomV:V->Option Key
 |.int i=>some (.inl i)
 |.str x=>some (.inr x)
 |_=>none
def keyV:List V->List Key
 |[]=>[]
 |v::r=>match atomV v with
  |some k=>k::keyV r
  |none=>[]
def sigV:V->Option Nat
 |.int _=>some 0
 |.str _=>some 1
 |.non=>some 2
 |.bl _=>some 2
 |.ref _=>some 2
 |_=>none
def sigs:List V->Option (List Nat)
 |[]=>some []
 |v::r=>match sigV v,sigs r with
  |some k,some ks=>some (k::ks)
  |_,_=>none
section
variable {prog:Program} {w:World} {A:Around} {E:Value->Shared->Prop} {s:Shared}
theorem lex_same {o:Bool}{Q:Bool->Shared->Prop}:∀{xs:List V} {us ws:List Value} (i:Nat) (l:List Nat),sigs xs=some l->Vals xs us->Vals xs ws->Q false s->KatLex prog w A o false Q (us.zip ws) i s
 |[],_,_,i,_,_,.nil,.nil,q=>kat_nil q
 |x::xs,_,_,i,l,h,.cons (b:=u) rx r1,.cons (b:=v) ry r2,q=>by
  unfold sigs at h
  split at h
  ·rename_i k ks e1 e2
   have rest:=lex_same (o:=o) (i+1) ks e2 r1 r2 q
   refine kat_cons ?_
   cases x with
   |int a =>
    obtain⟨t,rfl⟩:=rx
    obtain⟨t',rfl⟩:=ry
    refine wpAny_eqBool_int ?_
    rw[show(a==a)=true by simp]
    exact kat_yes rest
   |str a =>
    obtain⟨t,rfl⟩:=rx
    obtain⟨t',rfl⟩:=ry
    refine PyProof.Rows.eqBool_str ?_
    rw[show(a==a)=true by simp]
    exact kat_yes rest
   |non=>cases rx;cases ry;exact SeqAt.EqAt.same _ prog w _ _ (kat_yes rest)
   |bl b=>cases rx;cases ry;exact SeqAt.EqAt.same _ prog w _ _ (kat_yes rest)
   |ref b=>cases rx;cases ry;exact SeqAt.EqAt.same _ prog w _ _ (kat_yes rest)
   |_=>cases e1
  ·cases h
theorem lex_ok {o:Bool}{Q:Bool->Shared->Prop}:∀{xs ys:List V} {us ws:List Value} (i:Nat) (l:List Nat),sigs xs=some l->sigs ys=some l->(keyV xs=keyV ys->xs=ys)->Vals xs us->Vals ys ws->Q (lexK (keyV xs) (keyV ys)) s->KatLex prog w A o false Q (us.zip ws) i s
 |[],[],_,_,i,_,_,_,_,.nil,.nil,q=>kat_nil q
 |[],y::ys,_,_,i,l,h,h2,_,_,_,_=>by
  unfold sigs at h h2
  cases h
  split at h2<;>cases h2
 |x::xs,[],_,_,i,l,h,h2,_,_,_,_=>by
  unfold sigs at h h2
  cases h2
  split at h<;>cases h
 |x::xs,y::ys,_,_,i,l,h,h2,hk,.cons (b:=u) rx r1,.cons (b:=v) ry r2,q=>by
  have hx:=h
  have hy:=h2
  unfold sigs at h h2
  split at h
  case h_2=>cases h
  rename_i k ks e1 e2
  split at h2
  case h_2=>cases h2
  rename_i k' ks' e1' e2'
  cases h
  cases h2
  have step:∀(a b:Key) (c d:Bool),atomV x=some a->atomV y=some b->c=decide (a=b)->d=ltK a b->(∀Q':Bool->Shared->Prop,Q' c s->wpAny (model prog w) A (eqBool u v) Q' (fun _ _=>False) s)->(∀(o':Bool) (Q':Bool->Shared->Prop),Q' d s->wpAny (model prog w) A (oneLt' o' u v) Q' (fun _ _=>False) s)->KatLex prog w A o false Q ((u,v)::_) i s:=fun a b c d ea eb hc hd w1 w2=>by
   have k1:keyV (x::xs)=a::keyV xs:=by show(match atomV x with|some k=>k::keyV xs|none=>[])=_;rw[ea]
   have k2:keyV (y::ys)=b::keyV ys:=by show(match atomV y with|some k=>k::keyV ys|none=>[])=_;rw[eb]
   rw[k1,k2] at q hk
   unfold lexK at q
   refine kat_cons (w1 _ ?_)
   subst hc hd
   by_cases e:a=b
   ·rw[decide_eq_true e]
    rw[if_pos e] at q
    refine kat_yes (lex_ok (i+1) ks e2 e2' (fun z=>?_) r1 r2 q)
    have:=hk (by rw[e,z])
    injection this
   ·rw[decide_eq_false e]
    rw[if_neg e] at q
    exact kat_no (w2 _ _ q)
  have other:atomV x=none->atomV y=none->KatLex prog w A o false Q ((u,v)::_) i s:=fun ea eb=>by
   have k1:keyV (x::xs)=[]:=by show(match atomV x with|some k=>k::keyV xs|none=>[])=_;rw[ea]
   have k2:keyV (y::ys)=[]:=by show(match atomV y with|some k=>k::keyV ys|none=>[])=_;rw[eb]
   have e:=hk (by rw[k1,k2])
   injection e with e3 e4
   subst e3 e4
   rw[lexK_irr] at q
   exact lex_same (us:=u::_) (ws:=v::_) i _ hx (.cons rx r1) (.cons ry r2) q
  cases x with
  |int a =>
   cases y with
   |int b =>
    obtain⟨t,rfl⟩:=rx
    obtain⟨t',rfl⟩:=ry
    exact step (.inl a) (.inl b) (a==b) (decide (a<b)) rfl rfl (by by_cases e:a=b<;>simp[e]) rfl (fun Q' z=>wpAny_eqBool_int z) fun o' Q' z=>by
     cases o' with
     |true=>exact oneLt_int z
     |false=>exact kat_one _ _ (PyProof.Rows.lt_int z)
   |_=>simp[sigV] at e1 e1'<;>lia
  |str a =>
   cases y with
   |str b =>
    obtain⟨t,rfl⟩:=rx
    obtain⟨t',rfl⟩:=ry
    exact step (.inr a) (.inr b) (a==b) (decide (a.cps.toList<b.cps.toList)) rfl rfl (by by_cases e:a=b<;>simp[e]) rfl (fun Q' z=>PyProof.Rows.eqBool_str z) fun o' Q' z=>by
     cases o' with
     |true=>exact PyProof.Rows.oneLt_str z
     |false=>exact kat_one _ _ (PyProof.Rows.lt_str z)
   |_=>simp[sigV] at e1 e1'<;>lia
  |non=>cases y<;>first|exact other rfl rfl|(simp[sigV] at e1 e1'<;>lia)
  |bl b=>cases y<;>first|exact other rfl rfl|(simp[sigV] at e1 e1'<;>lia)
  |ref b=>cases y<;>first|exact other rfl rfl|(simp[sigV] at e1 e1'<;>lia)
  |_=>cases e1
end
end DL
set_option maxHeartbeats 4000000
set_option linter.all false
set_option maxRecDepth 100000
namespace DL
open PySem PySem.Spec PyProof.Rows L2 PySem.W
section
variable {prog:Program} {w:World} {A:Around} {E:Value->Shared->Prop} {s:Shared}
theorem ltok_of {κ:KeyKind}{kd:SortKind}(h:∀(x y:Value) (a b:κ.α) (Q:Bool->Shared->Prop) (E':Value->Shared->Prop),κ.keyOf x=some a->κ.keyOf y=some b->Q (κ.blt a b) s->wpAny (model prog w) A (keyLt' kd x y) Q E' s):TS.LtOk prog w A E s κ kd:=by
 intro x y a b st Q ha hb hk q
 rw[lt'_eq]
 refine wpS_bind (wpS_get ?_)
 rw[hk]
 exact wpS_bind (wpS_lift (wpAny_attempt (h x.1 y.1 a b _ _ ha hb ⟨rfl,wpS_pure q⟩)))
def kz (κ:KeyKind)(v:Value):κ.α:=(κ.keyOf v).getD κ.dflt
theorem pairs_out {κ:KeyKind}{vs:List Value}{xs:Array Keyed}(hp:xs.Perm (pairsOf vs))(hs:TS.SrtR κ xs 0 xs.size):(xs.map (·.2)).toList.Perm vs/\(xs.map (·.2)).toList.Pairwise fun x y=>κ.kle (kz κ x) (kz κ y):=by
 have hp:=Array.perm_iff_toList_perm.mp hp
 rw[pairsOf_toList] at hp
 have both:∀p∈xs.toList,p.1=p.2:=fun p h=>(mem_zip_self (hp.mem_iff.mp h)).1
 rw[Array.toList_map]
 refine⟨?_,List.pairwise_map.mpr ((TS.sl_of_srt hs).imp_of_mem fun {p q} h1 h2 h3=>?_)⟩
 ·have e:(vs.zip vs).map (·.2)=vs:=by rw[List.map_snd_zip];lia
  have:=hp.map (·.2)
  rwa[e] at this
 ·have:κ.kle (TS.kx κ p) (TS.kx κ q):=h3
  unfold TS.kx at this
  rw[both p h1,both q h2] at this
  exact this
theorem sortG_tree {a:Addr}{vs:List Value}{n:Nat}{κ:KeyKind}{kd:SortKind}{P:Fin->Shared->Prop} (ho:s.heap.get? a=some (seqObj "list" vs.toArray n)) (hz:vs.length<=sizeLine)
  (hk:2<=vs.length->∀h',(∀b o,b≠a->s.heap.get? b=some o->h'.get? b=some o)->∀Q:SortKind->Shared->Prop,Q kd { s with heap:=h' }->wpAny (model prog w) A (keyKind' vs.toArray) Q E { s with heap:=h' })
  (hq:∀h',(∀b o,b≠a->s.heap.get? b=some o->h'.get? b=some o)->TS.LtOk prog w A E { s with heap:=h' } κ kd) (h0:KeysOf κ (pairsOf vs))
  (h:∀out:List Value,out.Perm vs->(out.Pairwise fun x y=>κ.kle (kz κ x) (kz κ y))->P (.done (.ret .none)) { s with heap:=sortedHeap s.heap a vs out.toArray }) :
  wpAny (model prog w) A (Builtin.«list.sort» ⟨[.ref a],[]⟩) P E s:=by
 have la:a<s.heap.objs.size:=Heap.lt_size ho
 obtain⟨e1,ho1⟩:∃e1,(s.heap.update a (Obj.mapSeq fun _=>#[])).get? a=some (seqObj "list" #[] e1):=⟨_,get?_update_seq ho fun _=>#[]⟩
 have keep:∀b o,b≠a->s.heap.get? b=some o->(((s.heap.update a (Obj.mapSeq fun _=>#[])).push (seqObj "tuple" vs.toArray 0)).push (seqObj "list" #[] 0)).get? b=some o :=
  fun b o nb e=>Heap.get?_push_of_some _ (Heap.get?_push_of_some _ ((Heap.get?_update_other _ _ (Ne.symm nb)).trans e))
 have ho6:(((s.heap.update a (Obj.mapSeq fun _=>#[])).push (seqObj "tuple" vs.toArray 0)).push (seqObj "list" #[] 0)).get? a=some (seqObj "list" #[] e1):=Heap.get?_push_of_some _ (Heap.get?_push_of_some _ ho1)
 have z1:vs.toArray.size<=sizeLine:=by rw[List.size_toArray];exact hz
 rw[list_sort_plain]
 refine wpAny_bind (listItems_at ho rfl (wpAny_bind (listUpdate_at ho rfl (wpAny_bind (seqEpoch_at ho1 rfl (wpAny_bind (wpAny_newTuple (wpAny_bind (wpAny_newList (wpAny_holding ?_) (Nat.zero_le _))) (by simpa using z1))))) z1 (Nat.zero_le _))))
 dsimp only
 by_cases n2:vs.toArray.size<2
 ·rw[if_pos n2,if_pos n2]
  refine wpAny_bind (wpAny_pure ?_)
  rw[StateT.run_pure]
  refine wpAny_bind (wpAny_pure ?_)
  dsimp only
  have eo:(vs.toArray.zip vs.toArray).map (·.2)=vs.toArray:=by
   apply Array.toList_inj.mp
   rw[Array.toList_map,Array.toList_zip,List.map_snd_zip]
   lia
  refine wpAny_bind (seqEpoch_at ho6 rfl (wpAny_bind (listUpdate_at ho6 rfl ?_ (Nat.zero_le _) (by show((vs.toArray.zip vs.toArray).map (·.2)).size<=_;rw[eo];lia))))
  simp only[bne_self_eq_false,Bool.false_eq_true,if_false]
  change wpAny _ _ (ret .none) _ _ { s with heap:=sortedHeap s.heap a vs ((vs.toArray.zip vs.toArray).map (·.2)) }
  rw[eo]
  refine wpAny_pure (h vs (List.Perm.refl _) ?_)
  rw[List.size_toArray] at n2
  match vs,n2 with
  |[],_=>exact List.Pairwise.nil
  |[_],_=>exact List.pairwise_singleton _ _
 ·rw[if_neg n2,if_neg n2]
  rw[List.size_toArray] at n2
  refine wpAny_bind (hk (by lia) _ keep _ ?_)
  refine wpAny_bind (wpAny_mono (TS.wp_runs (a₀:=pairsOf vs) (st:=SortSt.mk' kd (vs.toArray.zip vs.toArray) #[] 7 none) (Q:=fun _ st'=>TS.SB kd (pairsOf vs) st'/\TS.SrtR κ (arrOf st') 0 (pairsOf vs).size) (hq _ keep) h0 ⟨Array.Perm.refl _,rfl,rfl⟩ rfl (by rw[pairsOf_size];lia) fun st' b1 b2=>⟨b1,b2⟩) ?_ fun _ _ e=>e)
  rintro⟨⟨⟩,st'⟩ s' ⟨rfl,b1,b2⟩
  dsimp only
  rw[<-b1.size] at b2
  obtain⟨o1,o2⟩:=pairs_out b1.perm b2
  refine wpAny_bind (seqEpoch_at ho6 rfl (wpAny_bind (listUpdate_at ho6 rfl ?_ (Nat.zero_le _) (by rw[<-Array.length_toList,o1.length_eq];lia))))
  rw[b1.failed]
  simp only[bne_self_eq_false,Bool.false_eq_true,if_false]
  have:=h _ o1 o2
  rw[Array.toArray_toList] at this
  exact wpAny_pure this
theorem sortedG {t:Bool}{l:Addr}{vs:List Value}{κ:KeyKind}{kd:SortKind}{Q:Value->Shared->Prop}(hl:SqK t s.heap l vs.toArray)(hz:vs.length<=sizeLine)(hk:2<=vs.length->∀A' E' h',(∀b o,s.heap.get? b=some o->h'.get? b=some o)->∀Q:SortKind->Shared->Prop,Q kd { s with heap:=h' }->wpAny (model prog w) A' (keyKind' vs.toArray) Q E' { s with heap:=h' })(hq:∀A' E' h',(∀b o,s.heap.get? b=some o->h'.get? b=some o)->TS.LtOk prog w A' E' { s with heap:=h' } κ kd)(h0:KeysOf κ (pairsOf vs))(h:∀out:List Value,out.Perm vs->(out.Pairwise fun x y=>κ.kle (kz κ x) (kz κ y))->Q (.ref (s.heap.objs.size+1)) { s with heap:=sortedAll s.heap vs out.toArray }) :
  wpAny (model prog w) A (call (.builtin "sorted") [.ref l]) Q E s:=by
 refine Calls.call_function_entry kind_sorted plain_sorted entry_sorted (args_sorted1 _) ?_
 unfold Builtin.«sorted»
 refine wpAny_bind (m:=checkCount "sorted" 1 1 _) (wpAny_pure (wpAny_bind (collectK hl (wpAny_bind (wpAny_newList ?_ hz)) hz)))
 have hsz:((s.heap.push (seqObj "list" #[] 0)).update s.heap.objs.size (Obj.mapSeq (·++vs.toArray))).objs.size=s.heap.objs.size+1:=(Heap.size_update ..).trans (size_push' ..)
 have hoL:(((s.heap.push (seqObj "list" #[] 0)).update s.heap.objs.size (Obj.mapSeq (·++vs.toArray))).push (seqObj "list" vs.toArray 0)).get? (s.heap.objs.size+1)=some (seqObj "list" vs.toArray 0):=hsz▸Heap.get?_push_size _ rfl
 have keep:∀b o,s.heap.get? b=some o->(((s.heap.push (seqObj "list" #[] 0)).update s.heap.objs.size (Obj.mapSeq (·++vs.toArray))).push (seqObj "list" vs.toArray 0)).get? b=some o:=fun b o e =>
  Heap.get?_push_of_some _ ((Heap.get?_update_other _ _ (Nat.ne_of_gt (Heap.lt_size e))).trans (Heap.get?_push_of_some _ e))
 have nb:∀b o,s.heap.get? b=some o->b≠s.heap.objs.size+1:=fun b o e=>Nat.ne_of_lt (Nat.lt_succ_of_lt (Heap.lt_size e))
 change wpAny _ _ _ _ _ { s with heap:=((s.heap.push (seqObj "list" #[] 0)).update s.heap.objs.size (Obj.mapSeq (·++vs.toArray))).push (seqObj "list" vs.toArray 0) }
 rw[hsz]
 refine wpAny_bind (wpAny_holding (wpAny_call_entry slot_list_sort ⟨_,hoL,rfl⟩ entry_list_sort (sortG_tree (κ:=κ) (kd:=kd) hoL hz (fun h2 h' e Q hQ=>hk h2 _ _ h' (fun b o z=>e b o (nb b o z) (keep b o z)) Q hQ)
  (fun h' e=>hq _ _ h' fun b o z=>e b o (nb b o z) (keep b o z)) h0 fun out o1 o2=>⟨_,rfl,wpAny_pure ⟨_,rfl,h out o1 o2⟩⟩) (args_list_sort _)))
end
theorem vals_perm:∀{us out:List Value},out.Perm us->∀{zs:List V},Vals zs us->∃zs',zs'.Perm zs/\Vals zs' out:=by
 intro us out p
 induction p with
 |nil=>intro zs r;exact⟨zs,List.Perm.refl _,r⟩
 |cons x _ ih =>
  intro zs r
  cases r with
  |cons h t =>
   obtain⟨zs',p,q⟩:=ih t
   exact⟨_,p.cons _,.cons h q⟩
 |swap x y l =>
  intro zs r
  cases r with
  |cons h t =>
   cases t with
   |cons h2 t=>exact⟨_,List.Perm.swap _ _ _,.cons h2 (.cons h t)⟩
 |trans _ _ ih1 ih2 =>
  intro zs r
  obtain⟨z1,p1,q1⟩:=ih2 r
  obtain⟨z2,p2,q2⟩:=ih1 q1
  exact⟨z2,p2.trans p1,q2⟩
def vkey (H:Hp):V->List Key
 |.ref a=>(match H a with
  |some (.tup y)=>keyV y
  |_=>[])
 |_=>[]
structure CndV (ys:List (List V)):Prop where
 sig:∃l,(∀y∈ys,sigs y=some l)/\(l.head?=some 0\/l.head?=some 1)
 inj:∀x∈ys,∀y∈ys,keyV x=keyV y->x=y
open Classical in
noncomputable def rowKind (H:Hp)(vs:List Value):KeyKind where
 α:=List Key
 blt:=lexK
 irrefl:=lexK_irr
 trans:=lexK_trans
 negTrans:=lexK_neg
 total:=lexK_total
 keyOf:=fun v=>if v∈vs then(match v with
  |.ref a=>(match H a with
   |some (.tup y)=>some (keyV y)
   |_=>none)
  |_=>none) else none
 dflt:=[]
theorem rows_mem {H:Hp}:∀{zs:List V} {ys:List (List V)} {us:List Value},RowsT H zs ys->Vals zs us->∀u∈us,∃a y,u=Value.ref a/\H a=some (.tup y)/\y∈ys
 |_,_,_,.nil,.nil,u,h=>by cases h
 |_,_,_,.cons q r,.cons v t,u,h=>by
  rcases List.mem_cons.mp h with rfl|h
  ·obtain⟨a,rfl,e⟩:=q
   cases v
   exact⟨a,_,rfl,e,by simp⟩
  ·obtain⟨a,y,e1,e2,e3⟩:=rows_mem r t u h
   exact⟨a,y,e1,e2,by simp[e3]⟩
theorem rowKind_key {H:Hp}{vs:List Value}{v:Value}{k:List Key}(h:(rowKind H vs).keyOf v=some k):v∈vs/\∃a y,v=Value.ref a/\H a=some (.tup y)/\k=keyV y:=by
 classical
 by_cases hv:v∈vs
 ·refine⟨hv,?_⟩
  have h:(if v∈vs then(match v with
   |.ref a=>(match H a with
    |some (.tup y)=>some (keyV y)
    |_=>none)
   |_=>none) else none)=some k:=by
   have h2:=h
   simp only[rowKind] at h2
   simpa[hv] using h2
  rw[if_pos hv] at h
  cases v with
  |ref a =>
   dsimp only at h
   split at h
   ·rename_i y e
    cases h
    exact⟨a,y,rfl,e,rfl⟩
   ·cases h
  |_=>cases h
 ·have h2:=h
  simp only[rowKind] at h2
  simp[hv] at h2
theorem rowKind_of {H:Hp}{vs:List Value}{a:Addr}{y:List V}(hv:Value.ref a∈vs)(e:H a=some (.tup y)):(rowKind H vs).keyOf (.ref a)=some (keyV y):=by
 classical
 simp only[rowKind]
 simp[hv,e]
section
variable {X:Cx} {E:XK}
theorem call_sortG:CallR X (.builtin "sorted") (fun xs H Q=>∃(t:Bool) (p:Addr) (zs:List V) (ys:List (List V)),xs=[.ref p]/\SqG t X.K H p zs/\RowsT H zs ys/\CndV ys/\zs.length<=sizeLine /\
  ∀l zs',H l=none->zs'.Perm zs->(zs'.Pairwise fun x y=>lexK (vkey H y) (vkey H x)=false)->Q (.ref l) (upd H l (.lst zs'))):=by
 intro pins s σ H xs us Q I r h
 obtain⟨t,p,zs,ys,rfl,hp,hr,hc,hz,k⟩:=h
 obtain⟨u,rfl,rx⟩:=vals1 r
 cases rx
 obtain⟨its,rv,pl⟩:=inv_sqg I hp
 have hl:=rv.length
 have rows:=rows_h I hr rv
 have mem:=rows_mem hr rv
 obtain⟨⟨sg,sg1,sg2⟩,inj⟩:=hc
 have headOf:∀y∈ys,(sg.head?=some 1->headS y=true)/\(sg.head?=some 0->headI y=true):=fun y hy=>by
  have e:=sg1 y hy
  cases y with
  |nil=>unfold sigs at e;cases e;simp
  |cons v y =>
   unfold sigs at e
   split at e
   ·rename_i a b e1 e2
    cases e
    refine⟨fun q=>?_,fun q=>?_⟩
    ·simp at q;subst q
     cases v<;>simp[sigV] at e1<;>rfl
    ·simp at q;subst q
     cases v<;>simp[sigV] at e1<;>rfl
   ·cases e
 have kind:∃o:Bool,2<=its.length->∀A' E' h',(∀b o,s.heap.get? b=some o->h'.get? b=some o)->∀Q:SortKind->Shared->Prop,Q (tuples' o) { s with heap:=h' }->wpAny (model X.prog X.w) A' (keyKind' its.toArray) Q E' { s with heap:=h' }:=by
  rcases sg2 with q|q
  ·have hh:ys.all headI=true:=List.all_eq_true.mpr fun y hy=>(headOf y hy).2 q
   refine⟨Value.type "int" != Value.type "tuple", fun h2 A' E' h' e Q hQ=>?_⟩
   obtain⟨fs,k1,k2,k3⟩:=(rows.mono e).firstI hh
   exact kat_kind (s:={ s with heap:=h' }) (T:=Value.type "int") k1 (by lia) (fun v hv=>by obtain⟨x,t,rfl⟩:=k2 v hv;exact Looks.of_pure rfl) (by rfl) hQ
  ·have hh:ys.all headS=true:=List.all_eq_true.mpr fun y hy=>(headOf y hy).1 q
   refine⟨Value.type "str" != Value.type "tuple", fun h2 A' E' h' e Q hQ=>?_⟩
   obtain⟨fs,k1,k2,k3⟩:=(rows.mono e).firstS hh
   exact kat_kind (s:={ s with heap:=h' }) (T:=Value.type "str") k1 (by lia) (fun v hv=>by obtain⟨x,t,rfl⟩:=k2 v hv;exact Looks.of_pure rfl) (by rfl) hQ
 obtain⟨o,kind⟩:=kind
 refine sortedG (κ:=rowKind H its) (kd:=tuples' o) pl (by lia) kind (fun A' E' h' e=>ltok_of fun x y a b Q E2 ha hb hQ=>?_) (fun q hq=>?_) fun out o1 o2=>?_
 ·obtain⟨m1,ax,x',rfl,e1,rfl⟩:=rowKind_key ha
  obtain⟨m2,ay,y',rfl,e2,rfl⟩:=rowKind_key hb
  obtain⟨bx,x2,w1,w2,w3⟩:=mem _ m1
  obtain⟨by',y2,v1,v2,v3⟩:=mem _ m2
  cases w1
  cases v1
  rw[w2] at e1
  rw[v2] at e2
  cases e1
  cases e2
  obtain⟨i1,r1,⟨ox,g1,g2,n1,g3⟩,_⟩:=I.tuple (SqT.of w2)
  obtain⟨i2,r2,⟨oy,f1,f2,n2,f3⟩,_⟩:=I.tuple (SqT.of v2)
  refine kat_lt (s:={ s with heap:=h' }) (e _ _ g1) g3 (e _ _ f1) f3 ?_
  have l1:=r1.length
  have l2:=r2.length
  have sx:=sg1 _ w3
  have sy:=sg1 _ v3
  have len:∀{v:List V} {l:List Nat},sigs v=some l->v.length=l.length:=by
   intro v
   induction v with
   |nil=>intro l q;unfold sigs at q;cases q;rfl
   |cons v vs ih =>
    intro l q
    unfold sigs at q
    split at q
    ·rename_i a b c1 c2
     cases q
     rw[List.length_cons,List.length_cons,ih c2]
    ·cases q
  have z1:=len sx
  have z2:=len sy
  have:decide (i1.toArray.size<i2.toArray.size)=false:=decide_eq_false (by rw[List.size_toArray,List.size_toArray];lia)
  rw[this]
  exact lex_ok 0 sg sx sy (inj _ w3 _ v3) r1 r2 hQ
 ·have hm:=(mem_zip_self (pairsOf_toList its▸hq)).2
  obtain⟨a,y,e1,e2,e3⟩:=mem _ hm
  rw[e1] at hm ⊢
  exact⟨_,rowKind_of hm e2⟩
 ·obtain⟨zs',p1,p2⟩:=vals_perm o1 rv
  obtain⟨n,he⟩:=sortedAll_at s.heap its out.toArray
  refine⟨.ref (s.heap.objs.size+1),_,I.laid (t':=s.toks) (o:=.lst zs') (fun b o e=>sortedAll_old e) (Nat.le_succ _) ⟨by rw[p1.length_eq];exact hz,out,n,p2,he⟩,rfl,k _ zs' (I.hok.fresh (Nat.le_succ _)) p1 ?_⟩
  have key:∀{zs':List V} {out:List Value},Vals zs' out->(∀u∈out,u∈its)->(out.Pairwise fun x y=>(rowKind H its).kle (kz (rowKind H its) x) (kz (rowKind H its) y))->zs'.Pairwise fun x y=>lexK (vkey H y) (vkey H x)=false:=by
   intro zs' out rr
   have one:∀{z:V} {u:Value},RelV z u->u∈its->kz (rowKind H its) u=vkey H z:=fun {z u} h1 h2=>by
    obtain⟨a,y,rfl,e2,e3⟩:=mem _ h2
    have ez:z=.ref a:=RelV.inj h1 (show RelV (.ref a) (Value.ref a) from rfl)
    subst ez
    have e5:vkey H (.ref a)=keyV y:=by
     show(match H a with
      |some (.tup y)=>keyV y
      |_=>[])=_
     rw[e2]
    unfold kz
    rw[rowKind_of h2 e2,e5]
    rfl
   induction rr with
   |nil=>intro _ _;exact List.Pairwise.nil
   |cons h1 t ih =>
    intro hm hs
    obtain⟨s1,s2⟩:=List.pairwise_cons.mp hs
    refine List.pairwise_cons.mpr ⟨fun z hz=>?_,ih (fun u hu=>hm u (by simp[hu])) s2⟩
    obtain⟨j,hj,ej⟩:=List.mem_iff_getElem.mp hz
    obtain⟨u,eu,ru⟩:=Vals.get t (List.getElem?_eq_getElem hj)
    have hu:u∈_:=List.mem_of_getElem? eu
    have:=s1 u hu
    rw[one h1 (hm _ (by simp)),one ru (hm u (by simp[hu])),ej] at this
    exact this
  exact key p2 (fun u hu=>o1.mem_iff.mp hu) o2
end
end DL
set_option maxHeartbeats 4000000
set_option linter.all false
set_option maxRecDepth 100000
namespace DL
open PySem PySem.Spec PyProof.Rows L2 PySem.W
def atomK:D->Option Key
 |.int i=>some (.inl i)
 |.str x=>some (.inr x)
 |_=>none
def keyRs:List D->List Key
 |[]=>[]
 |d::r=>match atomK d with
  |some k=>k::keyRs r
  |none=>[]
def keyRow:D->List Key
 |.tup es=>keyRs es
 |_=>[]
def sigD:D->Nat
 |.int _=>0
 |.str _=>1
 |_=>2
def rowSig:D->Option (List Nat)
 |.tup es=>some (es.map sigD)
 |_=>none
def insD (x:D):List D->List D
 |[]=>[x]
 |y::r=>if lexK (keyRow y) (keyRow x)=true then y::insD x r else x::y::r
def sortDs:List D->List D
 |[]=>[]
 |x::r=>insD x (sortDs r)
theorem insD_perm (x:D):∀l:List D,(insD x l).Perm (x::l)
 |[]=>List.Perm.refl _
 |y::r=>by
  unfold insD
  split
  ·exact((insD_perm x r).cons y).trans (List.Perm.swap x y r)
  ·exact List.Perm.refl _
theorem sortDs_perm:∀l:List D,(sortDs l).Perm l
 |[]=>List.Perm.refl _
 |x::r=>(insD_perm x _).trans ((sortDs_perm r).cons x)
abbrev leK (a b:List Key):Prop:=lexK b a=false
theorem leK_trans {a b c:List Key}(h:leK a b)(h2:leK b c):leK a c:=by
 unfold leK at *
 cases h3:lexK c a with
 |false=>rfl
 |true =>
  rcases lexK_neg c b a h3 with z|z
  ·rw[h2] at z;cases z
  ·rw[h] at z;cases z
theorem leK_of {a b:List Key}(h:lexK a b=true):leK a b:=by
 unfold leK
 cases h2:lexK b a with
 |false=>rfl
 |true=>have:=lexK_trans a b a h h2;rw[lexK_irr] at this;cases this
abbrev SrtD (l:List D):Prop:=l.Pairwise fun x y=>leK (keyRow x) (keyRow y)
theorem insD_sorted (x:D):∀l:List D,SrtD l->SrtD (insD x l)
 |[],_=>List.pairwise_singleton _ _
 |y::r,h=>by
  obtain⟨h1,h2⟩:=List.pairwise_cons.mp h
  unfold insD
  split
  ·rename_i hxy
   refine List.pairwise_cons.mpr ⟨fun z hz=>?_,insD_sorted x r h2⟩
   rcases List.mem_cons.mp ((insD_perm x r).mem_iff.mp hz) with rfl|hz
   ·exact leK_of hxy
   ·exact h1 z hz
  ·rename_i hxy
   have hxy:leK (keyRow x) (keyRow y):=by simpa using hxy
   refine List.pairwise_cons.mpr ⟨fun z hz=>?_,h⟩
   rcases List.mem_cons.mp hz with rfl|hz
   ·exact hxy
   ·exact leK_trans hxy (h1 z hz)
theorem sortDs_sorted:∀l:List D,SrtD (sortDs l)
 |[]=>List.Pairwise.nil
 |x::r=>insD_sorted x _ (sortDs_sorted r)
theorem keys_same:∀{a b:List (List Key)},a.Perm b->a.Pairwise leK->b.Pairwise leK->a=b
 |[],b,p,_,_=>(List.nil_perm.mp p).symm
 |x::a,[],p,_,_=>by have:=p.length_eq;simp at this
 |x::a,y::b,p,ha,hb=>by
  obtain⟨a1,a2⟩:=List.pairwise_cons.mp ha
  obtain⟨b1,b2⟩:=List.pairwise_cons.mp hb
  have hx:leK y x:=by
   rcases List.mem_cons.mp (p.mem_iff.mp (List.mem_cons_self)) with e|e
   ·rw[e];exact lexK_irr y
   ·exact b1 x e
  have hy:leK x y:=by
   rcases List.mem_cons.mp (p.mem_iff.mpr (List.mem_cons_self)) with e|e
   ·rw[e];exact lexK_irr x
   ·exact a1 y e
  have e:x=y:=lexK_total _ _ hx hy
  subst e
  rw[keys_same (List.Perm.cons_inv p) a2 b2]
theorem inj_nodup {α β:Type}{f:α->β}:∀{l:List α},(l.map f).Nodup->∀x∈l,∀y∈l,f x=f y->x=y
 |[],_,x,hx,_,_,_=>by cases hx
 |a::l,h,x,hx,y,hy,e=>by
  rw[List.map_cons] at h
  obtain⟨h1,h2⟩:=List.nodup_cons.mp h
  rcases List.mem_cons.mp hx with ex|hx
  ·rcases List.mem_cons.mp hy with ey|hy
   ·rw[ex,ey]
   ·exact absurd (List.mem_map.mpr ⟨y,hy,by rw[<-e,ex]⟩) h1
  ·rcases List.mem_cons.mp hy with ey|hy
   ·exact absurd (List.mem_map.mpr ⟨x,hx,by rw[e,ey]⟩) h1
   ·exact inj_nodup h2 x hx y hy e
theorem keyRs_inj:∀{es fs:List D},es.map sigD=fs.map sigD->(∀k∈es.map sigD,k<2)->keyRs es=keyRs fs->es=fs
 |[],[],_,_,_=>rfl
 |[],_::_,h,_,_=>by simp at h
 |_::_,[],h,_,_=>by simp at h
 |e::es,f::fs,h,hs,hk=>by
  rw[List.map_cons,List.map_cons] at h
  injection h with h1 h2
  have hs1:=hs (sigD e) (by simp)
  have ih:keyRs es=keyRs fs->es=fs:=fun z=>keyRs_inj h2 (fun k hk=>hs k (by rw[List.map_cons];exact List.mem_cons_of_mem _ hk)) z
  cases e with
  |int a =>
   cases f with
   |int b =>
    unfold keyRs at hk
    simp only[atomK] at hk
    injection hk with k1 k2
    injection k1 with k1
    rw[k1,ih k2]
   |_=>simp[sigD] at h1
  |str a =>
   cases f with
   |str b =>
    unfold keyRs at hk
    simp only[atomK] at hk
    injection hk with k1 k2
    injection k1 with k1
    rw[k1,ih k2]
   |_=>simp[sigD] at h1
  |_=>simp[sigD] at hs1
theorem keyV_inj:∀{x y:List V} {l:List Nat},sigs x=some l->sigs y=some l->(∀k∈l,k<2)->keyV x=keyV y->x=y
 |[],[],_,_,_,_,_=>rfl
 |[],y::ys,l,h,h2,_,_=>by
  unfold sigs at h h2
  cases h
  split at h2<;>cases h2
 |x::xs,[],l,h,h2,_,_=>by
  unfold sigs at h h2
  cases h2
  split at h<;>cases h
 |x::xs,y::ys,l,h,h2,hs,hk=>by
  unfold sigs at h h2
  split at h
  case h_2=>cases h
  rename_i k ks e1 e2
  split at h2
  case h_2=>cases h2
  rename_i k' ks' e1' e2'
  cases h
  cases h2
  have hs1:=hs k (by simp)
  have ih:keyV xs=keyV ys->xs=ys:=fun z=>keyV_inj e2 e2' (fun k hk=>hs k (by simp[hk])) z
  cases x with
  |int a =>
   cases y with
   |int b =>
    unfold keyV at hk
    simp only[atomV] at hk
    injection hk with k1 k2
    injection k1 with k1
    rw[k1,ih k2]
   |_=>simp[sigV] at e1 e1'<;>lia
  |str a =>
   cases y with
   |str b =>
    unfold keyV at hk
    simp only[atomV] at hk
    injection hk with k1 k2
    injection k1 with k1
    rw[k1,ih k2]
   |_=>simp[sigV] at e1 e1'<;>lia
  |_=>simp[sigV] at e1<;>lia
theorem row_is {K:PySem.W.Frag}{H:Hp}:∀{es:List D} {y:List V},Reps K H es y->keyV y=keyRs es/\sigs y=some (es.map sigD)
 |[],y,r=>by rw[reps_nil.mp r];exact⟨rfl,rfl⟩
 |e::es,y,r=>by
  obtain⟨x,t,rfl,h1,h2⟩:=reps_cons.mp r
  obtain⟨i1,i2⟩:=row_is h2
  unfold keyV keyRs sigs
  rw[i2,List.map_cons]
  cases e with
  |int a=>rw[rep_int.mp h1,i1];exact⟨rfl,rfl⟩
  |str a=>rw[rep_str.mp h1,i1];exact⟨rfl,rfl⟩
  |non=>rw[rep_non.mp h1];exact⟨rfl,rfl⟩
  |bl b=>rw[rep_bl.mp h1];exact⟨rfl,rfl⟩
  |tup ds =>
   obtain⟨a,xs,rfl,_⟩:=rep_tup.mp h1
   exact⟨rfl,rfl⟩
  |lst ds =>
   obtain⟨a,xs,rfl,_⟩:=rep_lst.mp h1
   exact⟨rfl,rfl⟩
def condD (ds:List D):Bool:=match ds with
 |[]=>true
 |d::_=>match rowSig d with
  |some l=>ds.all (fun e=>rowSig e==some l)&&(l.head?==some 0||l.head?==some 1)&&(l.all (fun k=>decide (k<2))||decide ((ds.map keyRow).Nodup))
  |none=>false
structure CD (ds:List D) (l:List Nat):Prop where
 row:∀d∈ds,rowSig d=some l
 hd:l.head?=some 0\/l.head?=some 1
 inj:(∀k∈l,k<2)\/(ds.map keyRow).Nodup
theorem condD_cd {ds:List D}(h:condD ds=true):∃l,CD ds l:=by
 unfold condD at h
 split at h
 ·exact⟨[0],fun d hd=>(by cases hd),.inl rfl,.inr List.nodup_nil⟩
 ·split at h
  ·rename_i d r l el
   rw[Bool.and_eq_true,Bool.and_eq_true,Bool.or_eq_true,Bool.or_eq_true] at h
   obtain⟨⟨h1,h2⟩,h3⟩:=h
   refine⟨l,fun d hd=>?_,?_,?_⟩
   ·exact eq_of_beq (List.all_eq_true.mp h1 d hd)
   ·rcases h2 with h2|h2
    ·exact .inl (eq_of_beq h2)
    ·exact .inr (eq_of_beq h2)
   ·rcases h3 with h3|h3
    ·exact .inl fun k hk=>of_decide_eq_true (List.all_eq_true.mp h3 k hk)
    ·exact .inr (of_decide_eq_true h3)
  ·cases h
theorem CD.injD {ds:List D}{l:List Nat}(h:CD ds l):∀d∈ds,∀e∈ds,keyRow d=keyRow e->d=e:=fun d hd e he hk=>by
 rcases h.inj with hi|hi
 ·have r1:=h.row d hd
  have r2:=h.row e he
  cases d with
  |tup es =>
   cases e with
   |tup fs =>
    simp only[rowSig,Option.some.injEq] at r1 r2
    rw[keyRs_inj (es:=es) (fs:=fs) (by rw[r1,r2]) (by rw[r1];exact hi) hk]
   |_=>cases r2
  |_=>cases r1
 ·exact inj_nodup hi d hd e he hk
theorem rows_of {K:PySem.W.Frag}{H:Hp}{l:List Nat}:∀{ds:List D} {zs:List V},Reps K H ds zs->(∀d∈ds,rowSig d=some l)->∃ys,RowsT H zs ys/\(∀y∈ys,sigs y=some l)/\ys.map keyV=ds.map keyRow
 |[],zs,r,_=>by rw[reps_nil.mp r];exact⟨[],.nil,fun y hy=>(by cases hy),rfl⟩
 |d::ds,zs,r,h=>by
  obtain⟨x,t,rfl,h1,h2⟩:=reps_cons.mp r
  obtain⟨ys,i1,i2,i3⟩:=rows_of h2 fun d hd=>h d (by simp[hd])
  have hd:=h d (by simp)
  cases d with
  |tup es =>
   obtain⟨a,y,rfl,h3,h4⟩:=rep_tup.mp h1
   obtain⟨k1,k2⟩:=row_is h4
   simp only[rowSig,Option.some.injEq] at hd
   refine⟨y::ys,.cons ⟨a,rfl,h3⟩ i1,fun z hz=>?_,?_⟩
   ·rcases List.mem_cons.mp hz with rfl|hz
    ·rw[k2,hd]
    ·exact i2 z hz
   ·rw[List.map_cons,List.map_cons,i3,k1];rfl
  |_=>cases hd
theorem vkey_is {K:PySem.W.Frag}{Hf H:Hp}(e:Same Hf H){d:D}{z:V}{l:List Nat}(hd:rowSig d=some l)(r:Rep K Hf d z):vkey H z=keyRow d:=by
 cases d with
 |tup es =>
  obtain⟨a,y,rfl,h3,h4⟩:=rep_tup.mp r
  show(match H a with
   |some (.tup y)=>keyV y
   |_=>[])=_
  rw[e _ _ h3]
  exact(row_is h4).1
 |_=>cases hd
theorem vkeys_is {K:PySem.W.Frag}{Hf H:Hp}(e:Same Hf H){l:List Nat}:∀{ds:List D} {zs:List V},Reps K Hf ds zs->(∀d∈ds,rowSig d=some l)->zs.map (vkey H)=ds.map keyRow
 |[],zs,r,_=>by rw[reps_nil.mp r];rfl
 |d::ds,zs,r,h=>by
  obtain⟨x,t,rfl,h1,h2⟩:=reps_cons.mp r
  rw[List.map_cons,List.map_cons,vkey_is e (h d (by simp)) h1,vkeys_is e h2 fun d hd=>h d (by simp[hd])]
theorem rep_part {K:PySem.W.Frag}{H:Hp}:∀{ds:List D} {zs:List V},Reps K H ds zs->∀z∈zs,∃d∈ds,Rep K H d z
 |[],zs,r,z,hz=>by rw[reps_nil.mp r] at hz;cases hz
 |d::ds,zs,r,z,hz=>by
  obtain⟨x,t,rfl,h1,h2⟩:=reps_cons.mp r
  rcases List.mem_cons.mp hz with rfl|hz
  ·exact⟨d,by simp,h1⟩
  ·obtain⟨d',h3,h4⟩:=rep_part h2 z hz
   exact⟨d',by simp[h3],h4⟩
theorem reps_by {K:PySem.W.Frag}{H:Hp}{f:V->List Key}{P:D->Prop}{T:V->Prop}(hP:∀d z,P d->T z->keyRow d=f z->Rep K H d z):∀{ds:List D} {zs:List V},ds.map keyRow=zs.map f->(∀d∈ds,P d)->(∀z∈zs,T z)->Reps K H ds zs
 |[],[],_,_,_=>Reps.nil
 |[],_::_,h,_,_=>by simp at h
 |_::_,[],h,_,_=>by simp at h
 |d::ds,z::zs,h,h1,h2=>by
  rw[List.map_cons,List.map_cons] at h
  injection h with e1 e2
  exact Reps.cons (hP d z (h1 d (by simp)) (h2 z (by simp)) e1) (reps_by hP e2 (fun d hd=>h1 d (by simp[hd])) fun z hz=>h2 z (by simp[hz]))
section
variable {X:Cx} {E:XK}
def sortGD (ds:List D):M D:=if few ds&&condD ds then .ok (.lst (sortDs ds)) else .bad
def bSortG:List D->M D
 |[.lst ds]=>sortGD ds
 |[.tup ds]=>sortGD ds
 |_=>.bad
theorem sortGD_ok {t:Bool}{Hf H:Hp}{p:Addr}{zs:List V}{ds:List D}{Q:VK}(e:Same Hf H)(hp:SqG t X.K Hf p zs)(hr:Reps X.K Hf ds zs)(q:Po X.K E (rV X.K) Hf H (sortGD ds) Q) :
  ∃(t:Bool) (p':Addr) (zs:List V) (ys:List (List V)),[V.ref p]=[V.ref p']/\SqG t X.K H p' zs/\RowsT H zs ys/\CndV ys/\zs.length<=sizeLine /\
  ∀l zs',H l=none->zs'.Perm zs->(zs'.Pairwise fun x y=>lexK (vkey H y) (vkey H x)=false)->Q (.ref l) (upd H l (.lst zs')):=by
 unfold sortGD at q
 have hl:=hr.length
 split at q
 case isFalse=>exact q.elim
 case isTrue hc =>
 rw[Bool.and_eq_true] at hc
 obtain⟨l,cd⟩:=condD_cd hc.2
 obtain⟨ys,y1,y2,y3⟩:=rows_of hr cd.row
 have hz:zs.length<=sizeLine:=by
  have:=of_decide_eq_true hc.1
  rw[sizeLine_eq];lia
 refine⟨t,p,zs,ys,rfl,sqg_same e hp,y1.mono e,⟨⟨l,y2,cd.hd⟩,fun x hx y hy hk=>?_⟩,hz,fun a zs' ha p1 p2=>q _ _ _ (Gr.alloc e ha _) (Gr.lst e ha ?_)⟩
 ·rcases cd.inj with hi|hi
  ·exact keyV_inj (y2 x hx) (y2 y hy) hi hk
  ·exact inj_nodup (y3▸hi) x hx y hy hk
 ·have k1:(zs'.map (vkey H))=(sortDs ds).map keyRow:=by
   refine keys_same ?_ (List.pairwise_map.mpr p2) (List.pairwise_map.mpr (sortDs_sorted ds))
   refine(p1.map _).trans ?_
   rw[vkeys_is e hr cd.row]
   exact((sortDs_perm ds).map _).symm
  refine reps_by (f:=vkey H) (P:=fun d=>d∈ds) (T:=fun z=>z∈zs) (fun d z hd hz hk=>?_) k1.symm (fun d hd=>(sortDs_perm ds).mem_iff.mp hd) fun z hz=>p1.mem_iff.mp hz
  obtain⟨d',h1,h2⟩:=rep_part hr z hz
  have:d=d':=cd.injD d hd d' h1 (by rw[hk,vkey_is e (cd.row d' h1) h2])
  rw[this];exact h2
theorem cd_sortG:CallD X E (.builtin "sorted") bSortG:=by
 refine⟨_,call_sortG,fun Hf H xs ds Q e r q=>?_⟩
 unfold bSortG at q
 split at q
 ·obtain⟨x,rfl,h⟩:=reps1 r
  obtain⟨p,ys,rfl,hp,hr⟩:=rep_lst.mp h
  exact sortGD_ok (t:=false) e hp hr q
 ·obtain⟨x,rfl,h⟩:=reps1 r
  obtain⟨p,ys,rfl,hp,hr⟩:=rep_tupQ h
  exact sortGD_ok (t:=true) e hp hr q
 ·exact q.elim
end
end DL
set_option maxHeartbeats 4000000
set_option linter.all false
set_option maxRecDepth 100000
namespace DL
open PySem PySem.Spec PyProof.Rows L2
section
variable {X:Cx} {E:XK} {pos:Pos} {a b:Expr}
end
def PoX (K:PySem.W.Frag)(E:XK)(H0:Hp)(B:Addr->Prop)(σ:L2.St)(Hf:Hp){α β:Type}(R:Hp->Hp->α->β->Prop)(r:M (α×DSt))(Q:β->Hp->Prop):Prop:=match r with
 |.ok (a,sd')=>∀b Hf' H',Same Hf Hf'->SR K H0 B Hf' sd' σ H'->R Hf' H' a b->Q b H'
 |.ex x=>∀c dx Hf' H',Same Hf Hf'->Fin' H0 B Hf' H'->RepX K Hf' H' x c dx->E c dx H'
 |.bad=>False
section
variable {K:PySem.W.Frag} {E:XK} {H0:Hp} {B:Addr->Prop} {σ:L2.St} {Hf H Hf1:Hp} {α β γ δ:Type} {R:Hp->Hp->α->β->Prop} {T:Hp->Hp->γ->δ->Prop}
theorem PoX.weak {r:M (α×DSt)}{Q:β->Hp->Prop}(g:Same Hf Hf1)(h:PoX K E H0 B σ Hf R r Q):PoX K E H0 B σ Hf1 R r Q:=by
 cases r with
 |ok a=>exact fun b Hf' H' e q=>h b Hf' H' (g.trans e) q
 |ex x=>exact fun c dx Hf' H' e q=>h c dx Hf' H' (g.trans e) q
 |bad=>exact h
theorem PoX.bind {sd:DSt}{r:M γ}{k:γ->M (α×DSt)}{Q:β->Hp->Prop}{Q1:δ->Hp->Prop}(sr:SR K H0 B Hf sd σ H)(h:PoX K E H0 B σ Hf R (r.bind k) Q)(s:∀a b Hf1 H1,r=.ok a->Gr Hf H Hf1 H1->SR K H0 B Hf1 sd σ H1->T Hf1 H1 a b->PoX K E H0 B σ Hf1 R (k a) Q->Q1 b H1):Po K E T Hf H r Q1:=by
 cases r with
 |ok a=>exact fun b Hf' H' g q=>s a b Hf' H' rfl g (sr.gr g) q (PoX.weak g.fz h)
 |ex x=>exact fun c dx Hf' H' g q=>h c dx Hf' H' g.fz (sr.gr g).fin q
 |bad=>exact h
end
section
variable {X:Cx} {E:XK} {pos:Pos} {a b:Expr}
end
end DL
set_option maxHeartbeats 4000000
set_option linter.all false
set_option maxRecDepth 100000
namespace DL
open PySem PySem.Spec PyProof.Rows L2
def filD (gt:D->DSt->M DSt)(fc:DSt->M Bool)(fe:DSt->M D)(sd0:DSt):List D->M (List D)
 |[]=>.ok []
 |d::ds=>match gt d sd0 with
  |.ok sd1=>match fc sd1 with
   |.ok true=>(match fe sd1 with
    |.ok e=>match filD gt fc fe sd0 ds with
     |.ok es=>.ok (e::es)
     |_=>.bad
    |_=>.bad)
   |.ok false=>filD gt fc fe sd0 ds
   |_=>.bad
  |_=>.bad
def fCompIf (fi:DSt->M (List D))(n0:Nat)(caps:List Nat)(gt:D->DSt->M DSt)(fc:DSt->M Bool)(fe:DSt->M D)(sd:DSt):M (List D):=(fi sd).bind fun ds=>if few ds then filD gt fc fe (sdC n0 caps sd) ds else .bad
theorem codeAny_comp_if {prog:Program}{w:World}{A:Around}{R:Result->Shared->Prop}{s:Shared}{elt target iter cnd:Expr}{scope:Scope}{pos:Pos}{it acc:Value}{env:Env}(I:Nat->Shared->Prop)
  (turn:∀n s,I n s->wpAny (model prog w) A (pyNext it) (fun r s₁=>match r with
   |none=>R (.ok .next) s₁
   |some v=>wpAny (model prog w) A (letOwnedTupleGo target it v) (fun _ s₂=>wpAny (model prog w) A (assign target env v) (fun _ s₃=>wpAny (model prog w) A (isTrue cnd env (eval cnd env)) (fun k s₃'=>if k=true then
     wpAny (model prog w) A (eval elt env) (fun x s₄=>wpAny (model prog w) A (call (.builtin "list.append") [acc,x]) (fun _ s₅=>∃m,m<n/\I m s₅) (fun _ _=>False) s₄) (fun _ _=>False) s₃' else ∃m,m<n/\I m s₃') (fun _ _=>False) s₃) (fun _ _=>False) s₂) (fun _ _=>False) s₁) (fun _ _=>False) s)
  (n:Nat) (h:I n s) :
  codeAny (model prog w) A (.compLoop (.ListComp elt [⟨target,iter,[cnd],0⟩] scope pos) 0 it acc env) R s:=by
 refine codeAny_loop rfl I (fun n s hI=>?_) n h
 change wpAny _ A ((compTurn (.ListComp elt [⟨target,iter,[cnd],0⟩] scope pos) 0 it acc env).onRaise (fun x=>do noteFrame x env;theTreesLotGoes x)) _ _ s
 refine wpAny_noted ?_
 rw[compTurn_list]
 refine wpAny_bind (wpAny_standAt (wpAny_bind (wpAny_mono (turn n s hI) (fun r s₁ h₁=>?_) fun _ _ h'=>h'.elim)))
 cases r with
 |none=>exact wpAny_pure h₁
 |some v =>
  refine wpAny_bind (wpAny_mono h₁ (fun _ s₂ h₂=>wpAny_bind (wpAny_mono h₂ (fun _ s₃ h₃=>?_) fun _ _ h'=>h'.elim)) fun _ _ h'=>h'.elim)
  refine wpAny_bind (wpAny_tests_one (wpAny_mono h₃ (fun k s₄ h₄=>?_) fun _ _ h'=>h'.elim))
  cases k with
  |true =>
   rw[if_pos rfl] at h₄
   simp only[if_true]
   exact wpAny_bind (wpAny_bind (wpAny_mono h₄ (fun x s₄ h₄=>wpAny_bind (wpAny_mono h₄ (fun _ s₅ h₅=>wpAny_pure (wpAny_pure ⟨rfl,h₅⟩)) fun _ _ h'=>h'.elim)) fun _ _ h'=>h'.elim))
  |false =>
   rw[if_neg (by decide)] at h₄
   simp only[Bool.false_eq_true,if_false]
   exact wpAny_pure ⟨rfl,h₄⟩
theorem pfd_compIf {X:Cx}{E:XK}{pos:Pos}{tg elt iter cnd:Expr}{scope:Scope}{Nc:List Str}{n0:Nat}{caps:List Nat}{cl:List (Str×Addr)}{fi:DSt->M (List D)}{gt:D->DSt->M DSt}{fe:DSt->M D}{fc:DSt->M Bool}(hc:X.calm=true)(hclos:closureFor scope X.env=pure cl)(cap:CapOk X Nc n0 caps scope cl)(hkind:scope.kind=.function)(hcell:∀y∈scope.names,y.2≠.cell)(hnames:∀y∈scope.names,y.2=.local->scope.names.lookup y.1=some .local)(hk:Keep n0 gt)(hi:PId X E tg iter fi)(hg:∀s3 H3 C ex,PGd (compCx X Nc scope cl s3 H3 C ex) tg gt)(hcd:∀s3 H3 C ex,PTd (compCx X Nc scope cl s3 H3 C ex) E0 cnd fc)(he:∀s3 H3 C ex,PEd (compCx X Nc scope cl s3 H3 C ex) E0 elt fe)(hs:∀x,foldedSetIterable iter X.env x=pure x:=by intro _;rfl) :
  PFd X E (.ListComp elt [⟨tg,iter,[cnd],0⟩] scope pos) (fCompIf fi n0 caps gt fc fe):=by
 refine⟨fun σ H Q=>∃H0 B Hf sd,SR X.K H0 B Hf sd σ H/\PoF X.K E Hf H (fCompIf fi n0 caps gt fc fe sd) Q,?_,fun H0 B Hf sd σ H Q sr h=>⟨H0,B,Hf,sd,sr,h⟩⟩
 rintro pins s σ H Q I ⟨H0,B,Hf,sd,sr,h⟩
 obtain⟨wi,pw,qw⟩:=hi
 rw[eval_ListComp]
 refine wpAny_comprehension_free (use:=none) rfl hs hclos hkind hnames ?_
 have step:=pw pins s σ H (fun J H2=>∃ds Hf2,Gr Hf H Hf2 H2/\ItOk X.K Hf2 H2 ds J/\PoF X.K E Hf2 H2 (if few ds then filD gt fc fe (sdC n0 caps sd) ds else .bad) Q) I
  (qw H0 B Hf sd σ H _ sr (PoF.bind h fun ds J Hf2 H2 _ g2 jok h2=>⟨ds,Hf2,g2,jok,h2⟩))
 refine thn step fun v s1 h1=>thn h1 fun itv s2 h2=>?_
 obtain⟨it,fp,tn,J,H2,rfl,I2,T,st2,f2,ds,Hf2,g2,jok,hq⟩:=h2
 have sr2:=sr.gr g2
 split at hq
 case isFalse=>exact hq.elim
 case isTrue hfew =>
 have fresh:H2 s2.heap.objs.size=none:=I2.hok.fresh (Nat.le_refl _)
 have holdf:∀b∈fp,∃o,s2.heap.get? b=some o:=fun b hb=>let ⟨o,e,_⟩:=T.obj 0 _ st2 b hb;⟨o,e⟩
 refine wpAny_newObj_type (wpAny_newFunctionEnv hcell (by intro y hy;simp at hy) (fun h₁ hns₁ hsb₁=>?_) hkind)
 have hC:(s2.heap.push lstObj).objs.size=s2.heap.objs.size+1:=Heap.size_push _ _
 have hns:h₁.Ns (s2.heap.objs.size+1) (fun x=>([]:List (Str×Value)).reverse.lookup x):=hC▸hns₁
 have hsb:Heap.SameBut (s2.heap.objs.size+1) ((s2.heap.push lstObj).push { cls:=.type "dict", data:=.dict #[] }) h₁:=hC▸hsb₁
 have hold1:∀b o,s2.heap.get? b=some o->h₁.get? b=some o:=fun b o e=>by
  have hb:b<s2.heap.objs.size:=Heap.lt_size e
  exact(hsb.2 b (Nat.ne_of_lt (Nat.lt_succ_of_lt hb))).trans (Heap.get?_push_of_some _ (Heap.get?_push_of_some _ e))
 have hD:h₁.get? s2.heap.objs.size=some lstObj:=(hsb.2 _ (Nat.ne_of_lt (Nat.lt_succ_self _))).trans (Heap.get?_push_of_some _ (Heap.get?_push_size _ rfl))
 have J0:=comp_inv I2 f2 holdf hkind cap (tk:=s2.toks+([]:List (Str×Value)).length) hns hold1 hD
 have hg:=hg { s2 with heap:=s2.heap.push lstObj } (upd H2 s2.heap.objs.size (.lst [])) (s2.heap.objs.size+1) fp
 have hcd:=hcd { s2 with heap:=s2.heap.push lstObj } (upd H2 s2.heap.objs.size (.lst [])) (s2.heap.objs.size+1) fp
 have he:=he { s2 with heap:=s2.heap.push lstObj } (upd H2 s2.heap.objs.size (.lst [])) (s2.heap.objs.size+1) fp
 generalize hXc:compCx X Nc scope cl { s2 with heap:=s2.heap.push lstObj } (upd H2 s2.heap.objs.size (.lst [])) (s2.heap.objs.size+1) fp=Xc at J0 hg hcd he
 have eP:Xc.prog=X.prog:=by subst hXc;rfl
 have eW:Xc.w=X.w:=by subst hXc;rfl
 have eK:Xc.K=X.K:=by subst hXc;rfl
 have eA:Xc.A=X.A:=by subst hXc;rfl
 have eX:Xc.xe=fun _ _=>False:=by subst hXc;rfl
 have eE:Xc.env=compEnvC scope cl (s2.heap.objs.size+1) X.env:=by subst hXc;rfl
 have eC:Xc.calm=true:=by subst hXc;exact hc
 have fpc:∀{H':Hp},(∀b∈fp,H' b=none)->∀b∈fp,FpOk Xc [] H' b:=fun {H'} hn b hb=>by
  subst hXc
  obtain⟨f0,f1,f2',f3,f4,f5⟩:=f2 b hb
  obtain⟨o,eo⟩:=holdf b hb
  refine⟨hn b hb,Nat.ne_of_lt (Nat.lt_succ_of_lt (Heap.lt_size eo)),fun hz=>?_,.inl hb,fun x c e=>f4 x c (cap.sub x c e),fun p hp=>absurd (show p∈([]:List (Addr×Obj)) from hp) (by simp)⟩
  rcases List.mem_cons.mp (I2.stkSub b hz) with e|hz
  ·exact f1 e
  ·exact f2' hz
 have nfp:∀b∈fp,b≠s2.heap.objs.size:=fun b hb=>by
  obtain⟨o,eo⟩:=holdf b hb
  exact Nat.ne_of_lt (Heap.lt_size eo)
 obtain⟨tg',pg,qg⟩:=hg
 obtain⟨tcn,pcn,qcn⟩:=hcd
 obtain⟨te,pe,qe⟩:=he
 have loop:∀s₃:Shared,s₃={ s2 with heap:=h₁,toks:=s2.toks+([]:List (Str×Value)).length } ->
   codeAny (model X.prog X.w) X.A (.compLoop (.ListComp elt [⟨tg,iter,[cnd],0⟩] scope pos) 0 (.ref it) (.ref s2.heap.objs.size) (compEnvC scope cl (s2.heap.objs.size+1) X.env))
    (compPost (model X.prog X.w) X.A X.xe none (EP X pins σ Q) (.ref s2.heap.objs.size) (s2.heap.objs.size+1)) s₃:=by
  rintro s₃ rfl
  refine codeAny_comp_if (fun n s'=>∃i vs es H' Hf' σ',n=ds.length - i/\i<=ds.length/\Inv Xc [] σ' H' s'/\tn i s'.heap/\(∀b∈fp,H' b=none) /\
   H' s2.heap.objs.size=some (.lst vs)/\Hf' s2.heap.objs.size=none/\Gr Hf2 H2 Hf' H'/\Reps X.K Hf' es vs/\vs.length<=i /\
   (sdC n0 caps sd).length=σ'.length/\(∀(j:Nat) (d:D),(sdC n0 caps sd)[j]?=some (some (.im d))->∃v,σ'[j]?=some (some v)/\Rep X.K Hf' d v) /\
   PoF X.K E Hf2 H2 ((filD gt fc fe (sdC n0 caps sd) (ds.drop i)).bind fun fs=>.ok (es++fs)) Q) ?_ ds.length ?_
  ·rintro n s' ⟨i,vs,es,H',Hf',σ',rfl,hil,J1,st1,fr1,hd1,hf1,g1,rs1,hl1,hlen1,him1,hq1⟩
   have jj:=jok i Hf' H' g1.fz g1.sub
   cases q:ds[i]? with
   |none =>
    rw[q] at jj
    have tdone:=T.done Xc eP eW eK eC i [] s' _ H' (fun _ _=>False) J1 (fpc fr1) st1 jj
    rw[eA] at tdone
    refine wpAny_mono tdone (fun r s4 hr=>?_) fun _ _ z=>z
    obtain⟨rfl,J4⟩:=hr
    rw[List.drop_eq_nil_of_le (List.getElem?_eq_none_iff.mp q)] at hq1
    subst hXc
    obtain⟨m,hn4,_⟩:=J4.loc
    refine⟨m,hn4,fun h' sb=>?_⟩
    refine⟨.ref s2.heap.objs.size,H',comp_back I2 f2 J4 sb,rfl,?_⟩
    have hq2:PoF X.K E Hf2 H2 (.ok es) Q:=by
     have:es++([]:List D)=es:=List.append_nil es
     rw[<-this];exact hq1
    exact hq2 _ vs Hf' H' g1 fresh hf1 hd1 rs1
   |some d =>
    rw[q] at jj
    obtain⟨go,yl⟩:=jj
    have hlt:i<ds.length:=(List.getElem?_eq_some_iff.mp q).1
    have hdr:ds.drop i=d::ds.drop (i+1):=by
     rw[List.drop_eq_getElem_cons hlt]
     congr 1
     exact(List.getElem?_eq_some_iff.mp q).2
    obtain⟨sd1,eg,hq2⟩:∃sd1,gt d (sdC n0 caps sd)=.ok sd1/\((fc sd1=.ok true/\∃e1,fe sd1=.ok e1/\PoF X.K E Hf2 H2 ((filD gt fc fe (sdC n0 caps sd) (ds.drop (i+1))).bind fun fs=>.ok ((es++[e1])++fs)) Q) \/
      (fc sd1=.ok false/\PoF X.K E Hf2 H2 ((filD gt fc fe (sdC n0 caps sd) (ds.drop (i+1))).bind fun fs=>.ok (es++fs)) Q)):=by
     rw[hdr] at hq1
     unfold filD at hq1
     split at hq1
     ·rename_i sd1 eg
      refine⟨sd1,eg,?_⟩
      split at hq1
      ·rename_i ec
       refine .inl ⟨ec,?_⟩
       split at hq1
       ·rename_i e1 ee
        refine⟨e1,ee,?_⟩
        cases em:filD gt fc fe (sdC n0 caps sd) (ds.drop (i+1)) with
        |ok fs =>
         rw[em] at hq1
         have:(es++[e1])++fs=es++e1::fs:=by simp
         rw[M.bind_ok,this]
         exact hq1
        |ex x=>rw[em] at hq1;exact hq1.elim
        |bad=>rw[em] at hq1;exact hq1.elim
       ·exact hq1.elim
      ·rename_i ec
       exact .inr ⟨ec,hq1⟩
      ·exact hq1.elim
     ·exact hq1.elim
    have titem:=T.item Xc eP eW eK eC i [] s' _ H' (fun _ _=>False) J1 (fpc fr1) st1 go
    rw[eA] at titem
    refine wpAny_mono titem (fun r s4 hr=>?_) fun _ _ z=>z
    obtain⟨u,rfl,h4⟩:=hr
    refine wpAny_mono h4 (fun _ s5 h5=>?_) fun _ _ z=>z
    obtain⟨x,H5,J5,r5,y5,st5,fr5⟩:=h5
    obtain⟨Hf5,g5,rx⟩:=yl x H5 y5
    have J5':=J5.pinned (fpc fr5) (T.obj _ _ st5)
    have hD5:H5 s2.heap.objs.size=some (.lst vs):=g5.all _ _ hd1
    have hf5:Hf5 s2.heap.objs.size=none:=g5.ban _ (Lv.lst hd1) hf1
    have him5:∀(j:Nat) (d:D),(sdC n0 caps sd)[j]?=some (some (.im d))->∃v,σ'[j]?=some (some v)/\Rep X.K Hf5 d v:=fun j d z=>let ⟨v,z1,z2⟩:=him1 j d z;⟨v,z1,z2.mono g5.fz⟩
    have sr5:SR Xc.K H5 (fun a=>Lv H5 a/\Hf5 a=none) Hf5 (sdC n0 caps sd) σ' H5:=eK▸SR.ofIm g5.sub hlen1 him5 sdC_no
    obtain⟨kl,kk,kn⟩:=hk d _ sd1 eg
    rcases hq2 with⟨ec,e1,ee,hq2⟩|⟨ec,hq2⟩
    ·have hg2:=pg _ s5 σ' H5 x u (fun σ6 H6=>tcn σ6 H6 fun bb H6'=>bb=true/\te σ6 H6' fun v7 H7=>∃Hf7,Gr Hf5 H5 Hf7 H7/\Rep X.K Hf7 e1 v7/\(sdC n0 caps sd).length=σ6.length/\(∀(j:Nat) (d:D),(sdC n0 caps sd)[j]?=some (some (.im d))->∃v,σ6[j]?=some (some v)/\Rep X.K Hf7 d v)) J5' r5
      (qg H5 _ Hf5 _ σ' H5 x d sd1 _ sr5 (eK▸rx) eg fun σ6 sr6=>qcn H5 _ Hf5 sd1 σ6 H5 _ sr6 (by
       rw[ec]
       rintro bb Hf6 H6' g6 rfl
       refine⟨rfl,qe H5 _ Hf6 sd1 σ6 H6' _ (sr6.gr g6) ?_⟩
       rw[ee]
       intro v7 Hf7 H7 g7 r7
       have r7:Rep Xc.K Hf7 e1 v7:=r7
       rw[eK] at r7
       refine⟨Hf7,g6.trans g7,r7,by rw[<-kl];exact sr6.len,fun j d z=>?_⟩
       have z2:sd1[j]?=some (some (.im d)):=by rw[kk j (sdC_lt z)];exact z
       obtain⟨v,z3,z4⟩:=sr6.im j d z2
       rw[eK] at z4
       exact⟨v,z3,z4.mono (g6.fz.trans g7.fz)⟩))
     rw[eP,eW,eA,eX,eE] at hg2
     refine wpAny_mono hg2 (fun _ s6 h6=>?_) fun _ _ z=>z
     obtain⟨σ6,H6,J6,q6⟩:=h6
     have hc2:=pcn _ s6 σ6 H6 _ J6 q6
     rw[eP,eW,eA,eX,eE] at hc2
     refine wpAny_mono hc2 (fun bb s6' h6=>?_) fun _ _ z=>z
     obtain⟨H6',J6',rfl,q6'⟩:=h6
     rw[if_pos rfl]
     have he2:=pe _ s6' σ6 H6' _ J6' q6'
     rw[eP,eW,eA,eX,eE] at he2
     refine wpAny_mono he2 (fun y s7 h7=>?_) fun _ _ z=>z
     obtain⟨v7,H7,J7,r7,Hf7,g7,rv7,hl7,him7⟩:=h7
     have hD7:H7 s2.heap.objs.size=some (.lst vs):=g7.all _ _ hD5
     have hf7:Hf7 s2.heap.objs.size=none:=g7.ban _ (Lv.lst hD5) hf5
     have happ:=mt_append (X:=Xc) _ s7 σ6 H7 (.ref s2.heap.objs.size) [v7] (.ref s2.heap.objs.size) [y] (fun _ H8=>H8=upd H7 s2.heap.objs.size (.lst (vs++[v7]))) J7 rfl (.cons r7 .nil)
      ⟨_,vs,v7,rfl,rfl,hD7,by
       have h1:=of_decide_eq_true hfew
       have h2:=sizeLine_eq
       lia,rfl⟩
     rw[eP,eW,eA,eX] at happ
     refine wpAny_mono happ (fun _ s8 h8=>?_) fun _ _ z=>z
     obtain⟨_,H8,J8,_,e8⟩:=h8
     subst e8
     have g17:=(g1.trans g5).trans g7
     refine⟨ds.length - (i+1),by lia,i+1,vs++[v7],es++[e1],_,Hf7,σ6,rfl,hlt,J8.unpinned,?_,fun b hb=>?_,upd_same,hf7,⟨g17.fz,fun b o z=>?_,fun b o z=>?_,g17.ban⟩,?_,by rw[List.length_append,List.length_singleton];lia,hl7,him7,hq2⟩
     ·exact T.keep _ _ _ st5 fun b hb o e=>(J8.pin (b,o) (List.mem_append_right _ (List.mem_append_right _ (mem_pinsAt hb e)))).1
     ·obtain⟨o,e,_⟩:=T.obj _ _ st5 b hb
      exact(J8.pin (b,o) (List.mem_append_right _ (List.mem_append_right _ (mem_pinsAt hb e)))).2.1
     ·have:b≠s2.heap.objs.size:=ne_of_none z hf7
      rw[upd_ne this];exact g17.sub b o z
     ·have:b≠s2.heap.objs.size:=ne_of_none z fresh
      rw[upd_ne this];exact g17.all b o z
     ·exact(rs1.mono (g5.fz.trans g7.fz)).append (Reps.cons rv7 Reps.nil)
    ·have hg2:=pg _ s5 σ' H5 x u (fun σ6 H6=>tcn σ6 H6 fun bb H7=>bb=false/\∃Hf7,Gr Hf5 H5 Hf7 H7/\(sdC n0 caps sd).length=σ6.length/\(∀(j:Nat) (d:D),(sdC n0 caps sd)[j]?=some (some (.im d))->∃v,σ6[j]?=some (some v)/\Rep X.K Hf7 d v)) J5' r5
      (qg H5 _ Hf5 _ σ' H5 x d sd1 _ sr5 (eK▸rx) eg fun σ6 sr6=>qcn H5 _ Hf5 sd1 σ6 H5 _ sr6 (by
       rw[ec]
       rintro bb Hf6 H6' g6 rfl
       refine⟨rfl,Hf6,g6,by rw[<-kl];exact sr6.len,fun j d z=>?_⟩
       have z2:sd1[j]?=some (some (.im d)):=by rw[kk j (sdC_lt z)];exact z
       obtain⟨v,z3,z4⟩:=sr6.im j d z2
       rw[eK] at z4
       exact⟨v,z3,z4.mono g6.fz⟩))
     rw[eP,eW,eA,eX,eE] at hg2
     refine wpAny_mono hg2 (fun _ s6 h6=>?_) fun _ _ z=>z
     obtain⟨σ6,H6,J6,q6⟩:=h6
     have hc2:=pcn _ s6 σ6 H6 _ J6 q6
     rw[eP,eW,eA,eX,eE] at hc2
     refine wpAny_mono hc2 (fun bb s8 h6=>?_) fun _ _ z=>z
     obtain⟨H8,J8,rfl,Hf7,g7,hl7,him7⟩:=h6
     rw[if_neg (by decide)]
     have hD7:H8 s2.heap.objs.size=some (.lst vs):=g7.all _ _ hD5
     have hf7:Hf7 s2.heap.objs.size=none:=g7.ban _ (Lv.lst hD5) hf5
     have g17:=(g1.trans g5).trans g7
     refine⟨ds.length - (i+1),by lia,i+1,vs,es,_,Hf7,σ6,rfl,hlt,J8.unpinned,?_,fun b hb=>?_,hD7,hf7,g17,rs1.mono (g5.fz.trans g7.fz),by lia,hl7,him7,hq2⟩
     ·exact T.keep _ _ _ st5 fun b hb o e=>(J8.pin (b,o) (List.mem_append_right _ (List.mem_append_right _ (mem_pinsAt hb e)))).1
     ·obtain⟨o,e,_⟩:=T.obj _ _ st5 b hb
      exact(J8.pin (b,o) (List.mem_append_right _ (List.mem_append_right _ (mem_pinsAt hb e)))).2.1
  ·refine⟨0,[],[],_,Hf2,_,by simp,Nat.zero_le _,J0,T.keep 0 _ _ st2 fun b hb o e=>hold1 b o e,fun b hb=>?_,upd_same,g2.sub.free fresh,⟨Same.refl _,fun b o z=>?_,same_upd fresh _,fun _ _ z=>z⟩,Reps.nil,Nat.le_refl _,?_,fun j d z=>?_,?_⟩
   ·rw[upd_ne (nfp b hb)];exact(f2 b hb).1
   ·have:b≠s2.heap.objs.size:=ne_of_none (g2.sub b o z) fresh
    rw[upd_ne this];exact g2.sub b o z
   ·unfold sdC;simp only[List.length_append,List.length_replicate,List.length_map]
   ·obtain⟨k,j',d',rfl,ej,es,ed⟩:=sdC_at z
    cases ed
    obtain⟨v,z1,z2⟩:=sr2.im j' d es
    refine⟨v,?_,z2⟩
    rw[List.getElem?_append_right (by simp),List.length_replicate,Nat.add_sub_cancel_left,List.getElem?_map,ej]
    simp[z1]
   ·have:∀r:M (List D),(r.bind fun fs=>.ok ([]++fs))=r:=fun r=>by cases r<;>simp
    rw[List.drop_zero,this]
    exact hq
 show codeAny (model X.prog X.w) X.A (.compStart (.ListComp elt [⟨tg,iter,[cnd],0⟩] scope pos) 0 (.ref it) (.ref s2.heap.objs.size) (compEnvC scope cl (s2.heap.push lstObj).objs.size X.env))
  (compPost (model X.prog X.w) X.A X.xe none (EP X pins σ Q) (.ref s2.heap.objs.size) (s2.heap.push lstObj).objs.size) { s2 with heap:=h₁,toks:=s2.toks+([]:List (Str×Value)).length }
 rw[hC]
 exact codeAny_compStart_list (loop _ rfl) (T.self X.A 0 _ _ _ (T.keep 0 _ _ st2 fun b hb o e=>hold1 b o e) (loop _ rfl))
end DL
set_option maxHeartbeats 4000000
set_option linter.all false
set_option maxRecDepth 100000
namespace L2
open PySem PySem.Spec PyProof.Rows
section
variable {prog:Program} {w:World} {A:Around} {E:Value->Shared->Prop} {s:Shared}
end
variable {X:Cx}
end L2
set_option maxHeartbeats 4000000
set_option linter.all false
set_option maxRecDepth 100000
namespace DP
open PySem PySem.Spec
open PySem.Sem (wp)
theorem mro_dict:mroOf (.type "dict")=pure [.type "dict", .type "object"]:=by rw[mroOf_type];kernel_rfl
theorem lookup_dict_new:typeLookup (.type "dict") "__new__" = pure (some (.builtin "dict.__new__")):=by rw[typeLookup_type,builtinLookup_eq_fast];kernel_rfl
theorem called_dict:TypeCalled "dict" "dict.__new__" "dict.__init__" :=
 ⟨by decide +kernel,by decide +kernel,⟨_,_,mro_dict⟩,madeBy_type mro_dict lookup_dict_new (by decide +kernel),by decide +kernel,by rw[isSubtype_type];kernel_rfl,F.slot_dict_init⟩
theorem typeCall_dict_1 (a:Value):checkTypeCall "dict" ⟨[a],[]⟩=pure ():=by kernel_rfl
theorem newCall_dict_1 (a:Value):checkBuiltinCall "dict.__new__" ⟨[.type "dict", a],[]⟩=pure ():=by kernel_rfl
theorem entry_dict_new:entryFor table "dict.__new__" = some Builtin.«dict.__new__»:=entryFor_of_tree (by kernel_rfl)
theorem plain_dict_new:plainId "dict.__new__" = true:=by decide +kernel
theorem entry_loop:entryFor table "dict.update.loop" = some Builtin.«dict.update.loop»:=entryFor_of_tree (by kernel_rfl)
theorem plain_loop:plainId "dict.update.loop" = true:=by decide +kernel
theorem sub_dict_self:isSubtype (.type "dict") (.type "dict")=pure true:=by rw[isSubtype_type];kernel_rfl
theorem list_keys_none:typeLookup (.type "list") "keys" = pure none:=by rw[typeLookup_type,builtinLookup_eq_fast];kernel_rfl
section
variable {prog:Program} {w:World} {A:Around} {E:Value->Shared->Prop} {s:Shared}
theorem code_dict_new (a:Value){Q₁:Value->Shared->Prop}
  (h:Q₁ (.ref s.heap.objs.size) { s with heap:=s.heap.push { cls:=.type "dict", data:=.dict #[] } }) :
  codeAny (model prog w) A (.call (.builtin "dict.__new__") ⟨[.type "dict", a],[]⟩) (wants Q₁ E) s:=by
 refine codeAny_of_tree ?_
 show wpAny _ A.in1 (do checkBuiltinCall "dict.__new__" ⟨[.type "dict", a],[]⟩;again (.builtin "dict.__new__" ⟨[.type "dict", a],[]⟩)) _ _ s
 refine wpAny_bind (wpAny_of_eq (newCall_dict_1 a) (wpAny_pure ⟨plainId_quiet plain_dict_new _,codeAny_builtin entry_dict_new ?_⟩))
 rw[Around.under_plainId plain_dict_new _]
 have hsub:=sub_dict_self
 have hm:=mro_dict
 obtain⟨hp,g,d,tk,os⟩:=s
 unfold Builtin.«dict.__new__»
 wp_walk
 exact h
theorem nokeys {a:Addr}{o:Obj}{xs:Array Value}{k:Nat}{Q:Option Value->Shared->Prop}(hx:s.heap.get? a=some o) (hc:o.cls=.type "list") (hdat:o.data=.seq xs k) (hd:o.dict=none) (hA:A.handled=none)
  (h:∀h' tk,(∀b ob,s.heap.get? b=some ob->h'.get? b=some ob)->Q none { s with heap:=h',toks:=tk }) :
  wpAny (model prog w) A (getAttr? (.ref a) "keys") Q E s:=by
 obtain⟨c,dct,dat,sl⟩:=o
 simp only at hc hdat hd
 subst hc hdat hd
 obtain⟨hp,g,d,tk,os⟩:=s
 have hT:∀tk',(⟨hp,g,d,tk',os⟩:Shared).TypeIs (.ref a) "list" := fun _=>⟨_,hx,rfl⟩
 have f1:=sub_AttributeError
 have f3:=F.slot_list_getattribute.lookup
 have f4:=F.slot_list_getattribute.bind (.ref a)
 have f5:=am_list_getattr_none
 unfold getAttr? getAttrBy? getAttrBy
 repeat (any_goals (first|assumption|exact hT _|((with_reducible show wpAny _ _ (call (Value.builtin "list.__getattribute__") _ _) _ _ _);refine call_meets F.slot_list_getattribute (hT _) am_entry_list_getattribute (F.args_list_getattribute_2 _ _) (meets_getattribute_miss_list a xs k sl "keys" _ list_keys_none (by decide +kernel)) ⟨hx,hA,fun h' tk' e hx'=>?_⟩)|wp_step))
 obtain⟨t',u',he⟩:=hx'.there
 show wpAny _ _ (getattributeRaised _ _ _ _ _ _ _) _ _ _
 unfold getattributeRaised
 repeat (any_goals (first|assumption|wp_step))
 exact h _ _ hx'.keeps
def PairsAt {K:Type}[DecidableEq K](knd:KeyKind prog w K)(h0:Heap)(ps:List (List K×Addr×Value))(items:Array Value):Prop :=
 items.size=ps.length/\∀(i:Nat) p,ps[i]?=some p->∃q o n,items[i]?=some (.ref q)/\h0.get? q=some o/\o.cls=.type "tuple"/\o.data=.seq #[.ref p.2.1,p.2.2] n/\IsTupleKey knd h0 p.1 p.2.1
def allH {K:Type}[DecidableEq K](ps:List (List K×Addr×Value)):List (List K×Addr×Value):=ps.foldl (fun xs p=>storedH xs p.1 p.2.1 p.2.2) []
theorem storedH_len {K:Type}[DecidableEq K](xs:List (List K×Addr×Value))(k:List K)(a:Addr)(v:Value):(storedH xs k a v).length<=xs.length+1:=by
 unfold storedH
 split
 ·rw[List.length_map];lia
 ·rw[List.length_append];simp
theorem allH_len {K:Type}[DecidableEq K](ps:List (List K×Addr×Value)):(allH ps).length<=ps.length:=by
 have h:∀(ps:List (List K×Addr×Value)) xs,(ps.foldl (fun xs p=>storedH xs p.1 p.2.1 p.2.2) xs).length<=xs.length+ps.length:=by
  intro ps
  induction ps with
  |nil=>intro xs;simp
  |cons p ps ih =>
   intro xs
   rw[List.foldl_cons,List.length_cons]
   have:=ih (storedH xs p.1 p.2.1 p.2.2)
   have:=storedH_len xs p.1 p.2.1 p.2.2
   lia
 have:=h ps []
 simpa[allH] using this
theorem allH_snoc {K:Type}[DecidableEq K](ps:List (List K×Addr×Value)){i:Nat}{p}(h:ps[i]?=some p):allH (ps.take (i+1))=storedH (allH (ps.take i)) p.1 p.2.1 p.2.2:=by
 have e:ps.take (i+1)=ps.take i++[p]:=by
  rw[List.take_add_one,h];rfl
 rw[e];unfold allH;rw[List.foldl_append];rfl
theorem dict_ext {K:Type}[DecidableEq K]{knd:KeyKind prog w K}{h h':Heap}{d it l:Addr}{i:Nat}{xs:List (List K×Addr×Value)}(m:h.DictOfH (tupleKind knd) d xs)(hi:h.IsListIter it l i)(e:∀b o,b≠it->h.get? b=some o->h'.get? b=some o):h'.DictOfH (tupleKind knd) d xs:=by
 obtain⟨o,es,ep,h1,h2,h3,h4,h5,h6⟩:=m
 obtain⟨oi,g1,g2,g3⟩:=hi
 have ne:∀{a:Addr} {ob:Obj},h.get? a=some ob->ob.cls≠.type "list_iterator"->a≠it:=fun {a ob} q c z=>by
  subst z
  rw[g1] at q;cases q;exact c g2
 refine⟨o,es,ep,e _ _ (ne h1 (by rw[h2.1];decide)) h1,h2,h3,h4,fun x hx=>?_,h6⟩
 obtain⟨o',its,n,z1,z2,z3,z4⟩:=h5 x hx
 exact⟨o',its,n,e _ _ (ne z1 (by rw[z2];decide)) z1,z2,z3,z4⟩
theorem key_ext {K:Type}[DecidableEq K]{knd:KeyKind prog w K}{h h':Heap}{ks:List K}{a:Addr}(m:IsTupleKey knd h ks a)(e:∀b o,h.get? b=some o->h'.get? b=some o):IsTupleKey knd h' ks a:=by
 obtain⟨o',its,n,z1,z2,z3,z4⟩:=m
 exact⟨o',its,n,e _ _ z1,z2,z3,z4⟩
theorem loop_ok {K:Type}[DecidableEq K]{knd:KeyKind prog w K}{R:Result->Shared->Prop}{h0:Heap}{l d it:Addr}{items:Array Value}{ps:List (List K×Addr×Value)}{res:Value}(hd0:h0.get? d=none)(hi0:h0.get? it=none)(hne:d≠it)(hl:h0.IsList l items)(hp:PairsAt knd h0 ps items)(hu:A.units+2<cLine)(hh:A.handled=none)(hz:ps.length<=sizeLine) :
  ∀(m i:Nat) (s:Shared),ps.length - i=m->i<=ps.length->(∀b o,h0.get? b=some o->s.heap.get? b=some o)->s.heap.IsListIter it l i->s.heap.DictOfH (tupleKind knd) d (allH (ps.take i)) ->
   (∀h' tk,(∀b o,h0.get? b=some o->h'.get? b=some o)->h'.DictOfH (tupleKind knd) d (allH ps)->R (.ok (.ret res)) { s with heap:=h',toks:=tk }) ->
   codeAny (model prog w) A (.builtin "dict.update.loop" ⟨[.ref d,.ref it,rawInt i,res],[]⟩) R s:=by
 obtain⟨hp1,hp2⟩:=hp
 intro m
 induction m with
 |zero =>
  intro i s hm hi hk hit hdd hR
  have hin:i=ps.length:=by lia
  subst hin
  refine codeAny_builtin entry_loop ?_
  rw[Around.under_plainId plain_loop _]
  obtain⟨ol,hol,hcl,nl,hdl⟩:=hl
  show wpAny _ A.in1 (pyNext (.ref it)>>=_) _ _ s
  refine wpAny_bind (wpAny_pyNext_list_end (items:=items) hh hit ⟨ol,hk _ _ hol,hcl,nl,hdl⟩ (by simp[hp1]) fun h' he=>?_)
  refine wpAny_bind (wpAny_pure (wpAny_pure ?_))
  rw[List.take_length] at hdd
  refine hR h' s.toks (fun b o q=>he b o (fun z=>?_) (hk b o q)) (dict_ext hdd hit he)
  subst z;rw[hi0] at q;cases q
 |succ m ih =>
  intro i s hm hi hk hit hdd hR
  have hlt:i<ps.length:=by lia
  obtain⟨p,hpi⟩:∃p,ps[i]?=some p:=⟨_,List.getElem?_eq_getElem hlt⟩
  obtain⟨q,o,n,e1,e2,e3,e4,e5⟩:=hp2 i p hpi
  refine codeAny_builtin entry_loop ?_
  rw[Around.under_plainId plain_loop _]
  obtain⟨ol,hol,hcl,nl,hdl⟩:=hl
  show wpAny _ A.in1 (pyNext (.ref it)>>=_) _ _ s
  refine wpAny_bind (wpAny_pyNext_list_item (items:=items) hit ⟨ol,hk _ _ hol,hcl,nl,hdl⟩ e1 fun h1 hit1 hs1=>?_)
  have ne:∀b o,h0.get? b=some o->b≠it:=fun b o z y=>by subst y;rw[hi0] at z;cases z
  have ne2:∀b o,h0.get? b=some o->b≠d:=fun b o z y=>by subst y;rw[hd0] at z;cases z
  have hk1:∀b o,h0.get? b=some o->h1.get? b=some o:=fun b o z=>by rw[hs1.2 b (ne b o z)];exact hk b o z
  refine wpAny_bind ?_
  refine wpAny_holding ?_
  refine wpAny_bind (wpAny_tryCatch ?_)
  unfold Builtin.Dict.pairItems
  refine wpAny_bind (wpAny_typeOf (s:={ s with heap:=h1 }) ⟨o,hk1 _ _ e2,e3⟩ ?_)
  rw[if_pos (by decide)]
  refine wpAny_bind (wpAny_seqItems (s:={ s with heap:=h1 }) (hk1 _ _ e2) e4 ?_)
  refine wpAny_pure ?_
  show wpAny _ _ (holding _ (dictSet d (.ref p.2.1) p.2.2)) _ _ _
  refine wpAny_holding ?_
  have hdd1:h1.DictOfH (tupleKind knd) d (allH (ps.take i)):=dict_ext hdd hit fun b o hb z=>by rw[hs1.2 b hb];exact z
  refine wpAny_dictSet_heap (s:={ s with heap:=h1 }) (tupleKind_room_in1 (by lia)) (key_ext e5 hk1) hdd1 (fun h2 hd2 hs2=>?_) (by
   have:=allH_len (ps.take i)
   rw[List.length_take] at this
   lia)
  refine wpAny_pure ⟨plainId_quiet plain_loop _,?_⟩
  rw[<-allH_snoc ps hpi] at hd2
  refine ih (i+1) { s with heap:=h2,toks:=_ } (by lia) hlt (fun b o z=>?_) ?_ hd2 fun h' tk k1 k2=>hR h' tk k1 k2
  ·show h2.get? b=some o
   rw[hs2.2 b (ne2 b o z)];exact hk1 b o z
  ·obtain⟨oi,g1,g2,g3⟩:=hit1
   exact⟨oi,by show h2.get? it=some oi;rw[hs2.2 it (Ne.symm hne)];exact g1,g2,g3⟩
theorem call_pairs {K:Type}[DecidableEq K]{knd:KeyKind prog w K}{Q:Value->Shared->Prop}{l:Addr}{items:Array Value}{ps:List (List K×Addr×Value)}{o:Obj}{n:Nat}(ho:s.heap.get? l=some o) (hc:o.cls=.type "list") (hdat:o.data=.seq items n) (hdict:o.dict=none) (hp:PairsAt knd s.heap ps items) (hu:A.units+8<cLine) (hh:A.handled=none) (hz:ps.length<=sizeLine)
  (hQ:∀h' tk,(∀b o,s.heap.get? b=some o->h'.get? b=some o)->h'.DictOfH (tupleKind knd) s.heap.objs.size (allH ps)->Q (.ref s.heap.objs.size) { s with heap:=h',toks:=tk }) :
  wpAny (model prog w) A (call (.type "dict") [.ref l]) Q E s:=by
 refine callType_codes (Q₁:=fun obj s₁=>obj=.ref s.heap.objs.size/\s₁={ s with heap:=s.heap.push { cls:=.type "dict", data:=.dict #[] } }) called_dict (typeCall_dict_1 _) F.entry_dict_init
  (code_dict_new _ ⟨rfl,rfl⟩) fun obj s₁ h₁=>?_
 obtain⟨rfl,rfl⟩:=h₁
 have hS:(s.heap.push { cls:=.type "dict", data:=.dict #[] }).get? s.heap.objs.size=some { cls:=.type "dict", data:=.dict #[] }:=Heap.get?_push_size _ rfl
 have old:∀b ob,s.heap.get? b=some ob->(s.heap.push { cls:=.type "dict", data:=.dict #[] }).get? b=some ob:=fun b ob e=>Heap.get?_push_of_some _ e
 have hT:(Shared.mk (s.heap.push { cls:=.type "dict", data:=.dict #[] }) s.gens s.drawn s.toks s.os).TypeIs (.ref s.heap.objs.size) "dict" := ⟨_,hS,rfl⟩
 refine⟨hT,F.args_dict_init_2 _ _,?_⟩
 unfold Builtin.«dict.__init__»
 refine wpAny_bind ?_
 unfold Builtin.Dict.selfAndRest
 refine wpAny_bind (wpAny_notOrdered_dict hT ?_)
 refine wpAny_pure ?_
 show wpAny _ _ (Builtin.Dict.updateFrom "dict.__init__" s.heap.objs.size (.ref l) [] .none) _ _ _
 unfold Builtin.Dict.updateFrom
 refine wpAny_bind (wpAny_typeOf ⟨o,old _ _ ho,hc⟩ ?_)
 rw[if_pos (by decide)]
 refine wpAny_bind (nokeys (old _ _ ho) hc hdat hdict hh fun h1 tk1 k1=>?_)
 rw[if_pos (show(Option.isNone (none:Option Value))=true from rfl)]
 refine wpAny_bind (wpAny_rule ?_)
 refine wpAny_bind (wpAny_pyIter_list (items:=items) ⟨o,k1 _ _ (old _ _ ho),hc,n,hdat⟩ ?_)
 have sz:∀b,s.heap.objs.size<=b->s.heap.get? b=none:=fun b hb=>by
  cases e:s.heap.get? b with
  |none=>rfl
  |some o=>exact absurd (Heap.lt_size e) (Nat.not_lt.mpr hb)
 have lt:s.heap.objs.size<h1.objs.size:=Heap.lt_size (k1 _ _ hS)
 refine wpAny_pure ⟨plainId_quiet plain_loop _,?_⟩
 refine loop_ok (A:=A.in1) (h0:=s.heap) (l:=l) (items:=items) (ps:=ps) (knd:=knd) (sz _ (Nat.le_refl _)) (sz _ (Nat.le_of_lt lt)) (Nat.ne_of_lt lt) ⟨o,ho,hc,n,hdat⟩ hp (by show A.units+1+2<cLine;lia) hh hz ps.length 0 _ rfl (Nat.zero_le _) (fun b ob e=>Heap.get?_push_of_some _ (k1 _ _ (old _ _ e))) ?_ ?_ fun h' tk k2 k3=>⟨rfl,hQ h' tk k2 k3⟩
 ·exact⟨_,Heap.get?_push_size _ rfl,rfl,rfl⟩
 ·exact⟨_,#[],0,Heap.get?_push_of_some _ (k1 _ _ hS),⟨rfl,rfl,rfl⟩,rfl,rfl,(fun x hx=>nomatch hx),List.nodup_nil⟩
end
end DP
set_option maxHeartbeats 4000000
set_option linter.all false
set_option maxRecDepth 100000
namespace DL
open PySem PySem.Spec PyProof.Rows L2
def PairV (H:Hp):List V->List (List Key×V)->Prop:=Paired fun z r=>∃q k,z=.ref q/\H q=some (.tup [.ref k,r.2])/\H k=some (.tup (r.1.map kV))
def allK (rs:List (List Key×V)):List (List Key×V):=rs.foldl (fun kvs r=>putK kvs r.1 r.2) []
theorem putK_len (kvs:List (List Key×V))(k:List Key)(v:V):(putK kvs k v).length<=kvs.length+1:=by
 unfold putK
 split
 ·rw[List.length_map];lia
 ·rw[List.length_append];simp
theorem allK_len (rs:List (List Key×V)):(allK rs).length<=rs.length:=by
 have h:∀(rs:List (List Key×V)) kvs,(rs.foldl (fun kvs r=>putK kvs r.1 r.2) kvs).length<=kvs.length+rs.length:=by
  intro rs
  induction rs with
  |nil=>intro xs;simp
  |cons p ps ih =>
   intro kvs
   rw[List.foldl_cons,List.length_cons]
   have:=ih (putK kvs p.1 p.2)
   have:=putK_len kvs p.1 p.2
   lia
 have:=h rs []
 simpa[allK] using this
section
variable {X:Cx} {E:XK}
theorem pairs_raw {pins:List (Addr×Obj)}{σ:L2.St}{H:Hp}{s:Shared}(I:Inv X pins σ H s):∀{zs:List V} {rs:List (List Key×V)} {its:List Value},PairV H zs rs->Vals zs its ->
  ∃ps:List (List Key×Addr×Value),DP.PairsAt (mixKind X.prog X.w) s.heap ps its.toArray/\∀kvs xs,KT H kvs xs->KT H (rs.foldl (fun kvs r=>putK kvs r.1 r.2) kvs) (ps.foldl (fun xs p=>storedH xs p.1 p.2.1 p.2.2) xs):=by
 intro zs rs its hp
 induction hp generalizing its with
 |nil =>
  intro r
  cases r
  exact⟨[],⟨rfl,fun i p h=>nomatch h⟩,fun kvs xs h=>h⟩
 | @cons z r zs rs h t ih =>
  intro rv
  cases rv with
  | @cons _ u _ us ru rt =>
   obtain⟨q,k,rfl,h1,h2⟩:=h
   cases ru
   obtain⟨ps,⟨p1,p2⟩,p3⟩:=ih rt
   obtain⟨i1,r1,⟨o,g1,g2,n,g3⟩,_⟩:=I.tuple (SqT.of h1)
   cases r1 with
   | @cons _ uk _ u1 rk r2 =>
   cases r2 with
   | @cons _ uv _ u2 rvv r3 =>
   cases r3
   cases rk
   refine⟨(r.1,k,uv)::ps,⟨?_,fun i p hi=>?_⟩,fun kvs xs hk=>?_⟩
   ·simpa using p1
   ·cases i with
    |zero =>
     simp only[List.getElem?_cons_zero,Option.some.injEq] at hi
     subst hi
     exact⟨q,o,n,by simp,g1,g2,by simpa using g3,key_of I.hok h2⟩
    |succ i =>
     simp only[List.getElem?_cons_succ] at hi
     obtain⟨q',o',n',z1,z2,z3,z4,z5⟩:=p2 i p hi
     exact⟨q',o',n',by simpa using z1,z2,z3,z4,z5⟩
   ·rw[List.foldl_cons,List.foldl_cons]
    exact p3 _ _ (KT.put hk r.1 h2 rvv)
theorem call_dict (hu:X.A.units+64<cLine)(hc:X.calm=true):CallR X (.type "dict") (fun xs H Q=>∃p zs rs,xs=[.ref p]/\SqL X.K H p zs/\PairV H zs rs/\∀l,H l=none->Q (.ref l) (upd H l (.dT (allK rs)))):=by
 intro pins s σ H xs us Q I r h
 obtain⟨p,zs,rs,rfl,hp,hr,k⟩:=h
 obtain⟨u,rfl,rx⟩:=vals1 r
 cases rx
 obtain⟨its,rv,⟨o,n,g1,g2,g3,g4⟩,hz⟩:=I.list hp
 obtain⟨ps,pa,kt⟩:=pairs_raw I hr rv
 have hl:ps.length=rs.length:=by
  have a:=pa.1
  have b:=rv.length
  have c:=Paired.length hr
  simp at a
  lia
 have hl2:zs.length=rs.length:=Paired.length hr
 refine DP.call_pairs g1 g2 g4 g3 pa (by lia) (I.ok.hd hc) (by lia) fun h' tk k1 k2=>?_
 obtain⟨o',es,ep,d1,d2,d3,d4,d5,d6⟩:=k2
 have fr:=I.hok.fresh (a:=s.heap.objs.size) (Nat.le_refl _)
 have t:=kt [] [] .nil
 have big:=I.big
 refine⟨.ref s.heap.objs.size,_,I.laid (t':=tk) (o:=.dT (allK rs)) k1 (Nat.le_refl _) ⟨?_,beq_eq_false_iff_ne.mpr (Ne.symm (Nat.ne_of_lt big)),_,?_,o',es,ep,d1,d2,d3,d4,d6⟩,rfl,k _ fr⟩
 ·have:=allK_len rs
  lia
 ·refine KT.keeps t fun b ys e=>?_
  rw[upd_ne (ne_of_none e fr)]
  exact e
def pairD:D->Option (List Key×D)
 |.tup [.tup ks,v]=>(keysD ks).map fun k=>(k,v)
 |_=>none
def pairsD:List D->Option (List (List Key×D))
 |[]=>some []
 |d::ds=>match pairD d,pairsD ds with
  |some p,some ps=>some (p::ps)
  |_,_=>none
def allD (rs:List (List Key×D)):List (List Key×D):=rs.foldl (fun kvs r=>putD kvs r.1 r.2) []
theorem pairs_rep {K:PySem.W.Frag}{Hf H:Hp}(e:Same Hf H):∀{ds:List D} {zs:List V} {rs:List (List Key×D)},pairsD ds=some rs->Reps K Hf ds zs->∃ys,PairV H zs ys/\RepKV K Hf rs ys
 |[],zs,rs,h,r=>by
  cases h
  rw[reps_nil.mp r]
  exact⟨[],.nil,.nil⟩
 |d::ds,zs,rs,h,r=>by
  obtain⟨z,zr,rfl,r1,r2⟩:=reps_cons.mp r
  unfold pairsD at h
  split at h
  ·rename_i p ps e1 e2
   cases h
   obtain⟨ys,y1,y2⟩:=pairs_rep e e2 r2
   unfold pairD at e1
   split at e1
   ·rename_i ks v
    obtain⟨k,ek,rfl⟩:=Option.map_eq_some_iff.mp e1
    obtain⟨a,xs,rfl,ha,hr⟩:=rep_tup.mp r1
    obtain⟨x1,xr,rfl,q1,q2⟩:=reps_cons.mp hr
    obtain⟨x2,xr2,rfl,q3,q4⟩:=reps_cons.mp q2
    rw[reps_nil.mp q4] at ha
    obtain⟨b,rfl,hb⟩:=key_at ek e q1
    exact⟨(k,x2)::ys,.cons ⟨a,b,rfl,e _ _ ha,hb⟩ y1,.cons ⟨rfl,q3⟩ y2⟩
   ·cases e1
  ·cases h
theorem RepKV.all {K:PySem.W.Frag}{H:Hp}:∀{rs:List (List Key×D)} {ys:List (List Key×V)},RepKV K H rs ys->∀{kvs:List (List Key×D)} {kys:List (List Key×V)},RepKV K H kvs kys->RepKV K H (rs.foldl (fun kvs r=>putD kvs r.1 r.2) kvs) (ys.foldl (fun kvs r=>putK kvs r.1 r.2) kys):=by
 intro rs ys h
 induction h with
 |nil=>intro kvs kys q;exact q
 | @cons r y rs ys h t ih =>
  intro kvs kys q
  rw[List.foldl_cons,List.foldl_cons]
  obtain⟨e,f⟩:=h
  rw[<-e]
  exact ih (RepKV.put q r.1 f)
end
end DL
set_option maxHeartbeats 4000000
set_option linter.all false
set_option maxRecDepth 100000
namespace HT
open PySem PySem.Spec PyProof.Rows
section
variable {prog:Program} {w:World} {A:Around} {E:Value->Shared->Prop} {s:Shared}
end
end HT
namespace DL
open PySem PySem.Spec PyProof.Rows L2
section
variable {X:Cx} {E:XK}
end
end DL
set_option maxHeartbeats 4000000
set_option linter.all false
set_option maxRecDepth 100000
namespace DL
open PySem PySem.Spec PySem.Calls PySem.Builtin PySem.Builtin.ObjectAttr PyProof.Rows L2 PySem.W
section
variable {X:Cx} {E:XK} {pos p p2:Pos} {a:Expr}
end
end DL
set_option maxHeartbeats 4000000
set_option linter.all false
set_option maxRecDepth 100000
namespace DL
open PySem PySem.Spec PySem.Calls PySem.Builtin PySem.Builtin.ObjectAttr PyProof.Rows L2 PySem.W
section
variable {X:Cx} {E:XK} {pos:Pos}
end
end DL
set_option maxHeartbeats 4000000
set_option linter.all false
set_option maxRecDepth 100000
namespace DL
open PySem PySem.Spec PySem.Calls PySem.Builtin PySem.Builtin.ObjectAttr PyProof.Rows L2 PySem.W
theorem psd_setC (i:Nat){X:Cx}{E:XK}{pos py spos:Pos}{tg elt iter:Expr}{scope:Scope}{Nc:List Str}{n0:Nat}{caps:List Nat}{cl:List (Str×Addr)}{fi:DSt->M (List D)}{gt:D->DSt->M DSt}{fe:DSt->M D}{y:Str}(hN:X.N.Nodup)(hc:X.calm=true)(hclos:closureFor scope X.env=pure cl)(cap:CapOk X Nc n0 caps scope cl)(hkind:scope.kind=.function)(hcell:∀y∈scope.names,y.2≠.cell)(hnames:∀y∈scope.names,y.2=.local->scope.names.lookup y.1=some .local)(hk:Keep n0 gt)(hi:PId X E tg iter fi)(hg:∀s3 H3 C ex,PGd (compCx X Nc scope cl s3 H3 C ex) tg gt)(he:∀s3 H3 C ex,PEd (compCx X Nc scope cl s3 H3 C ex) E0 elt fe)(hs:∀x,foldedSetIterable iter X.env x=pure x:=by intro _;rfl)(hy:X.N[i]?=some y:=by rfl)(hloc:Loc X.env.scope y:=by first|exact Or.inl rfl|exact Or.inr rfl)(hfy:X.fn y=true\/X.env.scope.names.lookup y=some .local:=by first|exact .inl rfl|exact .inr rfl)(hsw:swapsWith (.ListComp elt [⟨tg,iter,[],0⟩] scope pos) (some (.Name y py)) spos.line X.env=pure true:=by rfl) :
  PSd X E (.Assign [.Name y py] (.ListComp elt [⟨tg,iter,[],0⟩] scope pos) spos) (sSet i (eNew (fComp fi n0 caps gt fe))):=by
 refine⟨fun D' σ H=>∃H0 B Hf sd,SR X.K H0 B Hf sd σ H/\PoS X.K E H0 B Hf (sSet i (eNew (fComp fi n0 caps gt fe)) sd) D',?_,fun H0 B Hf sd σ H D' sr h=>⟨H0,B,Hf,sd,sr,h⟩⟩
 rintro pins s σ H D' I ⟨H0,B,Hf,sd,sr,h⟩
 obtain⟨wi,pw,qw⟩:=hi
 rw[exec_Assign_Name_used _ _ _ _ hsw]
 refine wpAny_bind (wpAny_standAt (wpAny_bind ?_))
 show wpAny _ _ (do let _ <-comprehension (.ListComp elt [⟨tg,iter,[],0⟩] scope pos) scope X.env _ (newList []) false (eval iter X.env) (some (assign (.Name y py) X.env))) _ _ s
 refine wpAny_bind (wpAny_mono (wpAny_comprehension_free (use:=some (assign (.Name y py) X.env)) (Q:=fun _ s'=>SP X pins D' .next s') rfl hs hclos hkind hnames ?_) (fun _ s' hq=>wpAny_pure (wpAny_pure hq)) fun _ _ e=>e)
 have h':PoS X.K E H0 B Hf ((fi sd).bind fun ds=>(if few ds then mapD gt fe (sdC n0 caps sd) ds else .bad).bind fun es=>.ok (.nx (sd.set i (some (.im (.lst es)))))) D':=by
  unfold sSet eNew fComp at h
  cases q:fi sd with
  |ok ds =>
   rw[q] at h
   rw[M.bind_ok] at h ⊢
   cases q2:(if few ds then mapD gt fe (sdC n0 caps sd) ds else M.bad) with
   |ok es=>rw[q2] at h;exact h
   |ex x=>rw[q2] at h;exact h
   |bad=>rw[q2] at h;exact h
  |ex x=>rw[q] at h;exact h
  |bad=>rw[q] at h;exact h
 have step:=pw pins s σ H (fun J H2=>∃ds Hf2,Gr Hf H Hf2 H2/\ItOk X.K Hf2 H2 ds J/\PoS X.K E H0 B Hf2 ((if few ds then mapD gt fe (sdC n0 caps sd) ds else .bad).bind fun es=>.ok (.nx (sd.set i (some (.im (.lst es)))))) D') I
  (qw H0 B Hf sd σ H _ sr (PoS.bind sr h' fun ds J Hf2 H2 _ g2 _ jok h2=>⟨ds,Hf2,g2,jok,h2⟩))
 refine thn step fun v s1 h1=>thn h1 fun itv s2 h2=>?_
 obtain⟨it,fp,tn,J,H2,rfl,I2,T,st2,f2,ds,Hf2,g2,jok,hq⟩:=h2
 have sr2:=sr.gr g2
 split at hq
 case isFalse=>exact hq.elim
 case isTrue hfew =>
 have fresh:H2 s2.heap.objs.size=none:=I2.hok.fresh (Nat.le_refl _)
 have holdf:∀b∈fp,∃o,s2.heap.get? b=some o:=fun b hb=>let ⟨o,e,_⟩:=T.obj 0 _ st2 b hb;⟨o,e⟩
 refine wpAny_newObj_type (wpAny_newFunctionEnv hcell (by intro y hy;simp at hy) (fun h₁ hns₁ hsb₁=>?_) hkind)
 have hC:(s2.heap.push lstObj).objs.size=s2.heap.objs.size+1:=Heap.size_push _ _
 have hns:h₁.Ns (s2.heap.objs.size+1) (fun x=>([]:List (Str×Value)).reverse.lookup x):=hC▸hns₁
 have hsb:Heap.SameBut (s2.heap.objs.size+1) ((s2.heap.push lstObj).push { cls:=.type "dict", data:=.dict #[] }) h₁:=hC▸hsb₁
 have hold1:∀b o,s2.heap.get? b=some o->h₁.get? b=some o:=fun b o e=>by
  have hb:b<s2.heap.objs.size:=Heap.lt_size e
  exact(hsb.2 b (Nat.ne_of_lt (Nat.lt_succ_of_lt hb))).trans (Heap.get?_push_of_some _ (Heap.get?_push_of_some _ e))
 have hD:h₁.get? s2.heap.objs.size=some lstObj:=(hsb.2 _ (Nat.ne_of_lt (Nat.lt_succ_self _))).trans (Heap.get?_push_of_some _ (Heap.get?_push_size _ rfl))
 have J0:=comp_inv I2 f2 holdf hkind cap (tk:=s2.toks+([]:List (Str×Value)).length) hns hold1 hD
 have hg:=hg { s2 with heap:=s2.heap.push lstObj } (upd H2 s2.heap.objs.size (.lst [])) (s2.heap.objs.size+1) fp
 have he:=he { s2 with heap:=s2.heap.push lstObj } (upd H2 s2.heap.objs.size (.lst [])) (s2.heap.objs.size+1) fp
 generalize hXc:compCx X Nc scope cl { s2 with heap:=s2.heap.push lstObj } (upd H2 s2.heap.objs.size (.lst [])) (s2.heap.objs.size+1) fp=Xc at J0 hg he
 have eP:Xc.prog=X.prog:=by subst hXc;rfl
 have eW:Xc.w=X.w:=by subst hXc;rfl
 have eK:Xc.K=X.K:=by subst hXc;rfl
 have eA:Xc.A=X.A:=by subst hXc;rfl
 have eX:Xc.xe=fun _ _=>False:=by subst hXc;rfl
 have eE:Xc.env=compEnvC scope cl (s2.heap.objs.size+1) X.env:=by subst hXc;rfl
 have eC:Xc.calm=true:=by subst hXc;exact hc
 have fpc:∀{H':Hp},(∀b∈fp,H' b=none)->∀b∈fp,FpOk Xc [] H' b:=fun {H'} hn b hb=>by
  subst hXc
  obtain⟨f0,f1,f2',f3,f4,f5⟩:=f2 b hb
  obtain⟨o,eo⟩:=holdf b hb
  refine⟨hn b hb,Nat.ne_of_lt (Nat.lt_succ_of_lt (Heap.lt_size eo)),fun hz=>?_,.inl hb,fun x c e=>f4 x c (cap.sub x c e),fun p hp=>absurd (show p∈([]:List (Addr×Obj)) from hp) (by simp)⟩
  rcases List.mem_cons.mp (I2.stkSub b hz) with e|hz
  ·exact f1 e
  ·exact f2' hz
 have nfp:∀b∈fp,b≠s2.heap.objs.size:=fun b hb=>by
  obtain⟨o,eo⟩:=holdf b hb
  exact Nat.ne_of_lt (Heap.lt_size eo)
 obtain⟨tg',pg,qg⟩:=hg
 obtain⟨te,pe,qe⟩:=he
 have loop:∀s₃:Shared,s₃={ s2 with heap:=h₁,toks:=s2.toks+([]:List (Str×Value)).length } ->
   codeAny (model X.prog X.w) X.A (.compLoop (.ListComp elt [⟨tg,iter,[],0⟩] scope pos) 0 (.ref it) (.ref s2.heap.objs.size) (compEnvC scope cl (s2.heap.objs.size+1) X.env))
    (compPost (model X.prog X.w) X.A X.xe (some (assign (.Name y py) X.env)) (fun _ s'=>SP X pins D' .next s') (.ref s2.heap.objs.size) (s2.heap.objs.size+1)) s₃:=by
  rintro s₃ rfl
  refine codeAny_comp_any (fun n s'=>∃k vs es H' Hf' σ',n=ds.length - k/\k<=ds.length/\Inv Xc [] σ' H' s'/\tn k s'.heap/\(∀b∈fp,H' b=none) /\
   H' s2.heap.objs.size=some (.lst vs)/\Hf' s2.heap.objs.size=none/\Gr Hf2 H2 Hf' H'/\Reps X.K Hf' es vs/\vs.length=k /\
   (sdC n0 caps sd).length=σ'.length/\(∀(j:Nat) (d:D),(sdC n0 caps sd)[j]?=some (some (.im d))->∃v,σ'[j]?=some (some v)/\Rep X.K Hf' d v) /\
   PoS X.K E H0 B Hf2 ((mapD gt fe (sdC n0 caps sd) (ds.drop k)).bind fun fs=>.ok (.nx (sd.set i (some (.im (.lst (es++fs))))))) D') ?_ ds.length ?_
  ·rintro n s' ⟨k,vs,es,H',Hf',σ',rfl,hil,J1,st1,fr1,hd1,hf1,g1,rs1,hl1,hlen1,him1,hq1⟩
   have jj:=jok k Hf' H' g1.fz g1.sub
   cases q:ds[k]? with
   |none =>
    rw[q] at jj
    have tdone:=T.done Xc eP eW eK eC k [] s' _ H' (fun _ _=>False) J1 (fpc fr1) st1 jj
    rw[eA] at tdone
    refine wpAny_mono tdone (fun r s4 hr=>?_) fun _ _ z=>z
    obtain⟨rfl,J4⟩:=hr
    rw[List.drop_eq_nil_of_le (List.getElem?_eq_none_iff.mp q)] at hq1
    subst hXc
    obtain⟨m,hn4,_⟩:=J4.loc
    have I4:Inv X pins σ H' s4:=comp_back I2 f2 J4 (h':=s4.heap) ⟨rfl,fun _ _=>rfl⟩
    have fC:Fresh X pins (s2.heap.objs.size+1):=fresh_of I2 (Nat.le_succ _)
    have nC:H' (s2.heap.objs.size+1)=none:=J4.free
    show wpAny (model X.prog X.w) X.A (assign (.Name y py) X.env (.ref s2.heap.objs.size)) _ _ s4
    refine wpAny_assign_Name (store_ok2 (v:=.ref s2.heap.objs.size) I4 hN hy hloc rfl (fun s5 I5 hw=>?_) hfy)
    obtain⟨a5,sb5,ha5⟩:=hw
    have neC:s2.heap.objs.size+1≠a5:=by
     rcases ha5 with e|e
     ·rw[e];exact fC.nl
     ·exact(fC.nc _ _ e).symm
    refine⟨m,hn4.sameBut sb5 neC,fun h6 sb6=>?_⟩
    have I6:Inv X pins (σ.set i (some (.ref s2.heap.objs.size))) H' { s5 with heap:=h6 }:=inv_ch (a:=s2.heap.objs.size+1) (T:=s2.heap.objs.size+1) I5 ⟨fun b o n1 n2 _ e=>(sb6.2 b n1).trans e,fun b o n1 n2 e=>⟨o.slots,(sb6.2 b n1).trans e⟩⟩ nC nC fC fC
    have hq2:PoS X.K E H0 B Hf2 (.ok (.nx (sd.set i (some (.im (.lst es)))))) D':=by
     have:es++([]:List D)=es:=List.append_nil es
     rw[<-this];exact hq1
    have g:Gr Hf2 H2 (upd Hf' s2.heap.objs.size (.lst vs)) H':=by
     refine⟨g1.fz.trans (same_upd hf1 _),fun b u z=>?_,g1.all,fun a h1 h2=>?_⟩
     ·by_cases hb:b=s2.heap.objs.size
      ·subst hb;rw[upd_same] at z;rw[hd1];exact z
      ·rw[upd_ne hb] at z;exact g1.sub b u z
     ·have:a≠s2.heap.objs.size:=fun z=>h1.nn (z▸fresh)
      rw[upd_ne this];exact g1.ban a h1 h2
    exact⟨_,H',I6,hq2 _ _ H' g.fz ((sr2.gr g).set_im i (rep_lst.mpr ⟨_,vs,rfl,SqL.of upd_same,rs1.mono (same_upd hf1 _)⟩))⟩
   |some d =>
    rw[q] at jj
    obtain⟨go,yl⟩:=jj
    have hlt:k<ds.length:=(List.getElem?_eq_some_iff.mp q).1
    have hdr:ds.drop k=d::ds.drop (k+1):=by
     rw[List.drop_eq_getElem_cons hlt]
     congr 1
     exact(List.getElem?_eq_some_iff.mp q).2
    obtain⟨sd1,e1,eg,ee,hq2⟩:∃sd1 e1,gt d (sdC n0 caps sd)=.ok sd1/\fe sd1=.ok e1/\PoS X.K E H0 B Hf2 ((mapD gt fe (sdC n0 caps sd) (ds.drop (k+1))).bind fun fs=>.ok (.nx (sd.set i (some (.im (.lst ((es++[e1])++fs))))))) D':=by
     rw[hdr] at hq1
     unfold mapD at hq1
     split at hq1
     ·rename_i sd1 eg
      split at hq1
      ·rename_i e1 ee
       refine⟨sd1,e1,eg,ee,?_⟩
       cases em:mapD gt fe (sdC n0 caps sd) (ds.drop (k+1)) with
       |ok fs =>
        rw[em] at hq1
        have:(es++[e1])++fs=es++e1::fs:=by simp
        rw[M.bind_ok,this]
        exact hq1
       |ex x=>exact(mapD_noex em).elim
       |bad=>rw[em] at hq1;exact hq1.elim
      ·exact hq1.elim
     ·exact hq1.elim
    have titem:=T.item Xc eP eW eK eC k [] s' _ H' (fun _ _=>False) J1 (fpc fr1) st1 go
    rw[eA] at titem
    refine wpAny_mono titem (fun r s4 hr=>?_) fun _ _ z=>z
    obtain⟨u,rfl,h4⟩:=hr
    refine wpAny_mono h4 (fun _ s5 h5=>?_) fun _ _ z=>z
    obtain⟨x,H5,J5,r5,y5,st5,fr5⟩:=h5
    obtain⟨Hf5,g5,rx⟩:=yl x H5 y5
    have J5':=J5.pinned (fpc fr5) (T.obj _ _ st5)
    have hD5:H5 s2.heap.objs.size=some (.lst vs):=g5.all _ _ hd1
    have hf5:Hf5 s2.heap.objs.size=none:=g5.ban _ (Lv.lst hd1) hf1
    have him5:∀(j:Nat) (d:D),(sdC n0 caps sd)[j]?=some (some (.im d))->∃v,σ'[j]?=some (some v)/\Rep X.K Hf5 d v:=fun j d z=>let ⟨v,z1,z2⟩:=him1 j d z;⟨v,z1,z2.mono g5.fz⟩
    have sr5:SR Xc.K H5 (fun a=>Lv H5 a/\Hf5 a=none) Hf5 (sdC n0 caps sd) σ' H5:=eK▸SR.ofIm g5.sub hlen1 him5 sdC_no
    obtain⟨kl,kk,kn⟩:=hk d _ sd1 eg
    have hg2:=pg _ s5 σ' H5 x u (fun σ6 H6=>te σ6 H6 fun v7 H7=>∃Hf7,Gr Hf5 H5 Hf7 H7/\Rep X.K Hf7 e1 v7/\(sdC n0 caps sd).length=σ6.length/\(∀(j:Nat) (d:D),(sdC n0 caps sd)[j]?=some (some (.im d))->∃v,σ6[j]?=some (some v)/\Rep X.K Hf7 d v)) J5' r5
     (qg H5 _ Hf5 _ σ' H5 x d sd1 _ sr5 (eK▸rx) eg fun σ6 sr6=>qe H5 _ Hf5 sd1 σ6 H5 _ sr6 (by
      rw[ee]
      intro v7 Hf7 H7 g7 r7
      have r7:Rep Xc.K Hf7 e1 v7:=r7
      rw[eK] at r7
      refine⟨Hf7,g7,r7,by rw[<-kl];exact sr6.len,fun j d z=>?_⟩
      have z2:sd1[j]?=some (some (.im d)):=by rw[kk j (sdC_lt z)];exact z
      obtain⟨v,z3,z4⟩:=sr6.im j d z2
      rw[eK] at z4
      exact⟨v,z3,z4.mono g7.fz⟩))
    rw[eP,eW,eA,eX,eE] at hg2
    refine wpAny_mono hg2 (fun _ s6 h6=>?_) fun _ _ z=>z
    obtain⟨σ6,H6,J6,q6⟩:=h6
    have he2:=pe _ s6 σ6 H6 _ J6 q6
    rw[eP,eW,eA,eX,eE] at he2
    refine wpAny_mono he2 (fun y s7 h7=>?_) fun _ _ z=>z
    obtain⟨v7,H7,J7,r7,Hf7,g7,rv7,hl7,him7⟩:=h7
    have hD7:H7 s2.heap.objs.size=some (.lst vs):=g7.all _ _ hD5
    have hf7:Hf7 s2.heap.objs.size=none:=g7.ban _ (Lv.lst hD5) hf5
    have happ:=mt_append (X:=Xc) _ s7 σ6 H7 (.ref s2.heap.objs.size) [v7] (.ref s2.heap.objs.size) [y] (fun _ H8=>H8=upd H7 s2.heap.objs.size (.lst (vs++[v7]))) J7 rfl (.cons r7 .nil)
     ⟨_,vs,v7,rfl,rfl,hD7,by
      have h1:=of_decide_eq_true hfew
      have h2:=sizeLine_eq
      lia,rfl⟩
    rw[eP,eW,eA,eX] at happ
    refine wpAny_mono happ (fun _ s8 h8=>?_) fun _ _ z=>z
    obtain⟨_,H8,J8,_,e8⟩:=h8
    subst e8
    have g17:=(g1.trans g5).trans g7
    refine⟨ds.length - (k+1),by lia,k+1,vs++[v7],es++[e1],_,Hf7,σ6,rfl,hlt,J8.unpinned,?_,fun b hb=>?_,upd_same,hf7,⟨g17.fz,fun b o z=>?_,fun b o z=>?_,g17.ban⟩,?_,by rw[List.length_append,hl1];rfl,hl7,him7,hq2⟩
    ·exact T.keep _ _ _ st5 fun b hb o e=>(J8.pin (b,o) (List.mem_append_right _ (List.mem_append_right _ (mem_pinsAt hb e)))).1
    ·obtain⟨o,e,_⟩:=T.obj _ _ st5 b hb
     exact(J8.pin (b,o) (List.mem_append_right _ (List.mem_append_right _ (mem_pinsAt hb e)))).2.1
    ·have:b≠s2.heap.objs.size:=ne_of_none z hf7
     rw[upd_ne this];exact g17.sub b o z
    ·have:b≠s2.heap.objs.size:=ne_of_none z fresh
     rw[upd_ne this];exact g17.all b o z
    ·exact(rs1.mono (g5.fz.trans g7.fz)).append (Reps.cons rv7 Reps.nil)
  ·refine⟨0,[],[],_,Hf2,_,by simp,Nat.zero_le _,J0,T.keep 0 _ _ st2 fun b hb o e=>hold1 b o e,fun b hb=>?_,upd_same,g2.sub.free fresh,⟨Same.refl _,fun b o z=>?_,same_upd fresh _,fun _ _ z=>z⟩,Reps.nil,rfl,?_,fun j d z=>?_,?_⟩
   ·rw[upd_ne (nfp b hb)];exact(f2 b hb).1
   ·have:b≠s2.heap.objs.size:=ne_of_none (g2.sub b o z) fresh
    rw[upd_ne this];exact g2.sub b o z
   ·unfold sdC;simp only[List.length_append,List.length_replicate,List.length_map]
   ·obtain⟨k,j',d',rfl,ej,es,ed⟩:=sdC_at z
    cases ed
    obtain⟨v,z1,z2⟩:=sr2.im j' d es
    refine⟨v,?_,z2⟩
    rw[List.getElem?_append_right (by simp),List.length_replicate,Nat.add_sub_cancel_left,List.getElem?_map,ej]
    simp[z1]
   ·rw[List.drop_zero]
    exact hq
 show codeAny (model X.prog X.w) X.A (.compStart (.ListComp elt [⟨tg,iter,[],0⟩] scope pos) 0 (.ref it) (.ref s2.heap.objs.size) (compEnvC scope cl (s2.heap.push lstObj).objs.size X.env))
  (compPost (model X.prog X.w) X.A X.xe (some (assign (.Name y py) X.env)) (fun _ s'=>SP X pins D' .next s') (.ref s2.heap.objs.size) (s2.heap.push lstObj).objs.size) { s2 with heap:=h₁,toks:=s2.toks+([]:List (Str×Value)).length }
 rw[hC]
 exact codeAny_compStart_list (loop _ rfl) (T.self X.A 0 _ _ _ (T.keep 0 _ _ st2 fun b hb o e=>hold1 b o e) (loop _ rfl))
end DL
set_option maxHeartbeats 4000000
set_option linter.all false
set_option maxRecDepth 100000
namespace DL
open PySem PySem.Spec PySem.Calls PySem.Builtin PySem.Builtin.ObjectAttr PyProof.Rows L2 PySem.W
section
variable {X:Cx} {E:XK} {a:Expr}
end
end DL
set_option maxHeartbeats 4000000
set_option linter.all false
set_option maxRecDepth 100000
namespace DL
open PySem PySem.Spec PyProof.Rows L2 HT
section
variable {prog:Program} {w:World} {A:Around} {E:Value->Shared->Prop} {s:Shared}
end
section
variable {X:Cx} {E:XK} {pos p2:Pos} {e es:Expr}
end
end DL
set_option maxHeartbeats 4000000
set_option linter.all false
set_option maxRecDepth 100000
namespace DL
open PySem PySem.Spec PyProof.Rows L2 PySem.W
def gNe4 (p q r t:Int):D->M D
 |.tup [.tup [.int a,.int b],.tup [.int c,.int d]]=>.ok (.bl (!(decide (a=p)&&decide (b=q)&&decide (c=r)&&decide (d=t))))
 |_=>.bad
def sSetD (i:Nat)(F:List D->M S)(fs:DSt->M (List D))(sd:DSt):M O:=(fs sd).bind fun ds=>match F ds with
 |.ok (.od kvs)=>.ok (.nx (sd.set i (some (.od kvs))))
 |_=>.bad
def sRetD (i:Nat)(sd:DSt):M O:=match sd[i]? with
 |some (some (.od kvs))=>.ok (.rt (.od kvs))
 |_=>.bad
end DL
set_option maxRecDepth 100000
set_option maxHeartbeats 4000000
set_option linter.all false
namespace PySem
def DictRw (h:Heap)(d:Addr)(es:Array DictEntry)(ep:Nat):Prop:=∃o,h.get? d=some o/\o.ExactDict/\o.data=.dict es ep
section
variable {prog:Program} {w:World} {A:Around} {E:Value->Shared->Prop} {s:Shared}
theorem DictRw.typeIs {d:Addr}{es:Array DictEntry}{ep:Nat}(x:DictRw s.heap d es ep):s.TypeIs (.ref d) "dict" := let ⟨o,ho,hx,_⟩:=x;⟨o,ho,hx.1⟩
end
end PySem
set_option maxHeartbeats 4000000
set_option linter.all false
set_option maxRecDepth 100000
namespace DL
open PySem PySem.Spec PyProof.Rows L2
section
variable {X:Cx} {E:XK} {pos p apos cpos:Pos}
theorem psd_setD (i:Nat){a:Expr}{y:Str}{pos' spos:Pos}{k:Nat}{f:Addr}{fd:FuncData}{ps:List Str}{F:List D->M S}{x:Str}{es:List Expr}{fs:DSt->M (List D)}(hN:X.N.Nodup)(G:FnOk X.prog X.w X.K X.mg X.base CX0 k f fd ps (spN X.K F))(hr:Room k X.A)(hm:X.mg x=some (.ref f))(hk:PySem.W.keepIn X.K (.ref f)=true)(hb:Binds X.K fd ps [])(ha:PAd X E (a::es) fs)(hi:X.N[i]?=some y:=by rfl)(hx:Loc X.env.scope y:=by first|exact Or.inl rfl|exact Or.inr rfl)(hs:swapsWith (.Call (.Name x p) (a::es) [] pos) (some (.Name y pos')) spos.line X.env=pure false:=by rfl)(hf:X.fn y=true\/X.env.scope.names.lookup y=some .local:=by first|exact .inl rfl|exact .inr rfl|assumption)(hg:Gl X x:=by rfl) (hdb:(x==("__debug__" : Str))=false:=by decide) (he:starEach (a::es) X.env=(false,eval a X.env)::starEach es X.env:=by rfl) (hpl:(backTo pos (starEach es X.env)).any (·.1)=false:=by rfl) :
  PSd X E (.Assign [.Name y pos'] (.Call (.Name x p) (a::es) [] pos) spos) (sSetD i F fs):=by
 obtain⟨t,pt,qt⟩:=ha
 refine⟨_,ps_set hN hi hx (pe_call (dvs:=[]) (E:=E0) G hr hg hm hk hb .nil pass0 pt hdb he hpl) hs hf,fun H0 B Hf sd σ H D sr h=>?_⟩
 refine qt H0 B Hf sd σ H _ sr (PoS.bind sr h fun ds vs Hf1 H1 _ g1 sr1 rs h1=>?_)
 split at h1
 ·rename_i kvs e
  refine⟨Hf1,ds,.od kvs,g1.sub,by rw[List.append_nil];exact rs,e,fun v Hf' H' g2 rv=>?_⟩
  obtain⟨p,rfl,e1,e2,e3⟩:=rv
  exact h1 _ Hf' H' g2.fz (sr1.set_new (sr1.gr g2) g2.all i e1 e2 rfl e3)
 ·exact h1.elim
theorem psd_retD (i:Nat){x:Str}{p1:Pos}(hi:X.N[i]?=some x:=by rfl)(hv:Vis X.env.scope x:=by first|exact Or.inl rfl|exact Or.inr (Or.inl rfl)|exact Or.inr (Or.inr rfl))
  (hd:(x==("__debug__" : Str))=false:=by decide) (hcd:(x==("__classdict__" : Str))=false:=by decide):PSd X E (.Return (some (.Name x p1)) pos) (sRetD i):=by
 refine⟨_,ps_ret (pe_var hi hv hd hcd),fun H0 B Hf sd σ H D sr h=>?_⟩
 unfold sRetD at h
 split at h
 ·rename_i kvs ei
  obtain⟨p,z1,z2,z3,z4⟩:=sr.ow i _ ei rfl
  exact⟨_,z1,h _ Hf H (Same.refl _) sr.fin ⟨p,rfl,z2,z3,z4⟩⟩
 ·exact h.elim
def fourB (K:PySem.W.Frag)(T:Addr)(p q r t:Int):Bool:=match K.lookup T with
 |some o=>(match o.cls,o.data with
  |.type n,.seq its _=>decide (n = "tuple")&&(match its.toList with
   |[.ref a,.ref b]=>tupB K a [.int p,.int q]&&tupB K b [.int r,.int t]
   |_=>false)
  |_,_=>false)
 |none=>false
theorem fourB_sq {K:PySem.W.Frag}{T:Addr}{p q r t:Int}(h:fourB K T p q r t=true)(H:Hp):∃a b,SqT K H T [.ref a,.ref b]/\SqT K H a [.int p,.int q]/\SqT K H b [.int r,.int t]:=by
 unfold fourB at h
 split at h
 ·rename_i o eo
  split at h
  ·rename_i n its m e1 e2
   rw[Bool.and_eq_true] at h
   obtain⟨h1,h2⟩:=h
   have h1:=of_decide_eq_true h1
   subst h1
   split at h2
   ·rename_i a b el
    rw[Bool.and_eq_true] at h2
    have hs:its.size=2:=by rw[<-Array.length_toList,el];rfl
    refine⟨a,b,.inr ⟨o,its,m,eo,e1,e2,?_,?_⟩,(tupB_sq h2.1).1,(tupB_sq h2.2).1⟩
    ·rw[hs,sizeLine_eq];decide
    ·rw[el]
     exact .cons rfl (.cons rfl .nil)
   ·cases h2
  ·cases h
 ·cases h
section
variable {pins:List (Addr×Obj)} {σ:L2.St} {H:Hp} {s:Shared}
theorem pair_eq (I:Inv X pins σ H s){A:Around}(hu:A.units+2<cLine){a b:Addr}{x y u v:Int}(ha:SqT X.K H a [.int x,.int y])(hb:SqT X.K H b [.int u,.int v]):SeqAt.EqAt A s (.ref a) (.ref b) (decide (x=u)&&decide (y=v)):=by
 obtain⟨i1,v1,t1,_⟩:=I.tuple ha
 obtain⟨i2,v2,t2,_⟩:=I.tuple hb
 obtain⟨a1,a2,rfl,r1,r2⟩:=vals2 v1
 obtain⟨b1,b2,rfl,r3,r4⟩:=vals2 v2
 obtain⟨k1,rfl⟩:=(show ∃t,a1=Value.int x t from r1)
 obtain⟨k2,rfl⟩:=(show ∃t,a2=Value.int y t from r2)
 obtain⟨k3,rfl⟩:=(show ∃t,b1=Value.int u t from r3)
 obtain⟨k4,rfl⟩:=(show ∃t,b2=Value.int v t from r4)
 have rc:=SeqAt.RcAt.tuples (e:=fun j=>if j=0 then x==u else y==v) t1 t2 (show A.units<cLine by lia) fun j h1 h2=>by
  have:j=0\/j=1:=by simp at h1;lia
  rcases this with rfl|rfl
  ·exact .int_int x k1 u k3
  ·exact .int_int y k2 v k4
 have e:(decide (x=u)&&decide (y=v))=((List.range (min [Value.int x k1,Value.int y k2].toArray.size [Value.int u k3,Value.int v k4].toArray.size)).all (fun j=>if j=0 then x==u else y==v)&&([Value.int x k1,Value.int y k2].toArray.size==[Value.int u k3,Value.int v k4].toArray.size)):=by
  show _=((List.range 2).all _&&true)
  rw[Bool.eq_iff_iff]
  simp[List.range_succ]
 rw[e]
 by_cases hp:a=b
 ·subst hp
  have q:=I.tuple_inj ha hb
  injection q with q1 q2
  injection q2 with q2 _
  injection q1 with q1
  injection q2 with q2
  rw[<-e,q1,q2,decide_eq_true rfl,decide_eq_true rfl]
  exact .same _
 ·exact .of_refs hp rc
theorem four_ne (I:Inv X pins σ H s)(hu:X.A.units+64<cLine){p T a b c d:Addr}{x y z w p' q' r' t':Int}(h1:SqT X.K H p [.ref a,.ref b])(h2:SqT X.K H a [.int x,.int y])(h3:SqT X.K H b [.int z,.int w])(g1:SqT X.K H T [.ref c,.ref d])(g2:SqT X.K H c [.int p',.int q'])(g3:SqT X.K H d [.int r',.int t']):SeqAt.RcNeAt X.A s (.ref p) (.ref T) (!(decide (x=p')&&decide (y=q')&&decide (z=r')&&decide (w=t'))):=by
 obtain⟨i1,v1,t1,_⟩:=I.tuple h1
 obtain⟨i2,v2,t2,_⟩:=I.tuple g1
 obtain⟨a1,a2,rfl,r1,r2⟩:=vals2 v1
 obtain⟨b1,b2,rfl,r3,r4⟩:=vals2 v2
 obtain rfl:a1=Value.ref a:=r1
 obtain rfl:a2=Value.ref b:=r2
 obtain rfl:b1=Value.ref c:=r3
 obtain rfl:b2=Value.ref d:=r4
 have hu1:X.A.in1.units+2<cLine:=by show X.A.units+1+2<_;lia
 have e1:=pair_eq I (A:=X.A.in1) hu1 h2 g2
 have e2:=pair_eq I (A:=X.A.in1) hu1 h3 g3
 have ne:=SeqAt.RcNeAt.tuples (e:=fun j=>if j=0 then(decide (x=p')&&decide (y=q')) else(decide (z=r')&&decide (w=t'))) t1 t2 (show X.A.units<cLine by lia) fun j k1 k2=>by
  have:j=0\/j=1:=by simp at k1;lia
  rcases this with rfl|rfl
  ·exact e1
  ·exact e2
 have e:(!(decide (x=p')&&decide (y=q')&&decide (z=r')&&decide (w=t')))=!((List.range (min [Value.ref a,Value.ref b].toArray.size [Value.ref c,Value.ref d].toArray.size)).all (fun j=>if j=0 then(decide (x=p')&&decide (y=q')) else(decide (z=r')&&decide (w=t')))&&([Value.ref a,Value.ref b].toArray.size==[Value.ref c,Value.ref d].toArray.size)):=by
  show _=!((List.range 2).all _&&true)
  simp[List.range_succ,Bool.and_assoc]
 rw[e]
 exact ne
end
def rNe4 (K:PySem.W.Frag)(T:Addr)(p q r t:Int):R2:=fun x y H Q=>∃c a b k l m n,x=.ref c/\y=.ref T/\SqT K H c [.ref a,.ref b]/\SqT K H a [.int k,.int l]/\SqT K H b [.int m,.int n]/\Q (.bl (!(decide (k=p)&&decide (l=q)&&decide (m=r)&&decide (n=t)))) H
theorem op_ne4 {T:Addr}{p q r t:Int}(hu:X.A.units+64<cLine)(hT:fourB X.K T p q r t=true):OpR X (compareOp .NotEq) (rNe4 X.K T p q r t):=by
 intro pins s σ H x y v u Q I rx ry h
 obtain⟨c,a,b,k,l,m,n,rfl,rfl,h1,h2,h3,q⟩:=h
 obtain rfl:v=Value.ref c:=rx
 obtain rfl:u=Value.ref T:=ry
 obtain⟨d,e,g1,g2,g3⟩:=fourB_sq hT H
 exact four_ne I hu h1 h2 h3 g1 g2 g3 _ _ _ _ ⟨.bl _,H,I,rfl,q⟩
theorem ptd_ne4 {x:Str}{e:Expr}{p2:Pos}{T:Addr}{p q r t:Int}{f:DSt->M D}(hu:X.A.units+64<cLine)(hm:X.mg x=some (.ref T))(ht:fourB X.K T p q r t=true)(he:PEd X E e f)(hg:Gl X x:=by rfl) (hd:(x==("__debug__" : Str))=false:=by decide) :
  PTd X E (.Compare e [.NotEq] [.Name x p2] pos) (DL.tB (eUn (gNe4 p q r t) f)):=by
 obtain⟨te,pe,qe⟩:=he
 refine⟨_,pt_cmpR (op_ne4 hu ht) pe (pe_glob (v:=.ref T) hg hm rfl hd) (by with_unfolding_all rfl),fun H0 B Hf sd σ H Q sr h=>?_⟩
 refine qe H0 B Hf sd σ H _ sr (Po.bind (po_asB h) fun d v Hf1 H1 _ g1 rv h1=>?_)
 unfold gNe4 at h1
 split at h1
 ·rename_i k l m n _
  obtain⟨c,xs,rfl,hc,hr⟩:=rep_tupQ rv
  obtain⟨v1,v2,rfl,r1,r2⟩:=reps2 hr
  obtain⟨a,as,rfl,ha,hra⟩:=rep_tupQ r1
  obtain⟨b,bs,rfl,hb,hrb⟩:=rep_tupQ r2
  obtain⟨w1,w2,rfl,s1,s2⟩:=reps2 hra
  obtain⟨w3,w4,rfl,s3,s4⟩:=reps2 hrb
  rw[rep_int] at s1 s2 s3 s4
  subst s1 s2 s3 s4
  exact⟨c,a,b,k,l,m,n,rfl,rfl,Same.seqT g1.sub hc,Same.seqT g1.sub ha,Same.seqT g1.sub hb,Po.ret g1.sub h1 (rep_bl.mpr rfl)⟩
 ·exact h1.elim
end
end DL
set_option maxHeartbeats 4000000
set_option linter.all false
set_option maxRecDepth 100000
namespace DL
open PySem PySem.Spec PyProof.Rows L2
def PoK (K:PySem.W.Frag)(E:XK)(H0:Hp)(B:Addr->Prop)(v0:Option (Option V))(Hf:Hp)(r:M O)(D:Ends):Prop:=match r with
 |.ok (.nx sd')=>∀σ' Hf' H',Same Hf Hf'->SR K H0 B Hf' sd' σ' H'->σ'[0]?=v0->D.nx σ' H'
 |.ok (.bk _)=>False
 |.ok (.ct _)=>False
 |.ok (.rt _)=>False
 |.ex _=>False
 |.bad=>False
theorem PoK.weak {K:PySem.W.Frag}{E:XK}{H0 Hf Hf1:Hp}{B:Addr->Prop}{v0:Option (Option V)}{r:M O}{D:Ends}(g:Same Hf Hf1)(h:PoK K E H0 B v0 Hf r D):PoK K E H0 B v0 Hf1 r D:=by
 cases r with
 |ok o =>
  cases o with
  |nx sd=>exact fun σ' Hf' H' e q=>h σ' Hf' H' (g.trans e) q
  |bk sd=>exact h
  |ct sd=>exact h
  |rt s=>exact h
 |ex x=>exact h
 |bad=>exact h
theorem PoK.bind {K:PySem.W.Frag}{E:XK}{H0 Hf H:Hp}{B:Addr->Prop}{v0:Option (Option V)}{sd:DSt}{σ:L2.St}{α β:Type}{R:Hp->Hp->α->β->Prop}{r:M α}{k:α->M O}{D:Ends}{Q1:β->Hp->Prop}(sr:SR K H0 B Hf sd σ H)(h:PoK K E H0 B v0 Hf (r.bind k) D)(s:∀a b Hf1 H1,r=.ok a->Gr Hf H Hf1 H1->SR K H0 B Hf1 sd σ H1->R Hf1 H1 a b->PoK K E H0 B v0 Hf1 (k a) D->Q1 b H1):Po K E R Hf H r Q1:=by
 cases r with
 |ok a=>exact fun b Hf' H' g q=>s a b Hf' H' rfl g (sr.gr g) q (PoK.weak g.fz h)
 |ex x=>exact h.elim
 |bad=>exact h
section
variable {X:Cx} {E:XK} {pos p1 p2 pos':Pos} {key value:Expr} {x:Str}
end
structure GrM (a:Addr) (Hf H Hf' H':Hp):Prop where
 fz:Same Hf Hf'
 sub:Same Hf' H'
 all:∀b u,b≠a->H b=some u->H' b=some u
 ban:∀b,Lv H b->Hf b=none->Hf' b=none
end DL
set_option maxHeartbeats 4000000
set_option linter.all false
set_option maxRecDepth 100000
namespace DL
open PySem PySem.Spec PyProof.Rows L2
def sameD (xs ys:List (List Key×D)):Bool:=decide (xs.length=ys.length)&&xs.all fun kv=>match getD' ys kv.1 with
 |some d=>D.eq kv.2 d
 |none=>false
def eDEq (neg:Bool)(fa fb:DSt->M (List D))(sd:DSt):M D:=match fa sd,fb sd with
 |.ok [.lst xs],.ok [.lst ys]=>(match pairsD xs,pairsD ys with
  |some a,some b=>if few xs&&few ys&&decide (D.deps xs<=60) then .ok (.bl (if neg then !sameD (allD a) (allD b) else sameD (allD a) (allD b))) else .bad
  |_,_=>.bad)
 |_,_=>.bad
end DL
namespace PySem
open PyProof.Rows
section
variable {prog:Program} {w:World} {K:Type} [DecidableEq K] {knd:HeapKind prog w K} {A:Around} {E:Value->Shared->Prop} {s:Shared}
def PairsEq (A:Around)(s:Shared)(xa xb:List (K×Addr×Value))(ev:K×Addr×Value->Bool):Prop:=∀x∈xa,match atKey xb x.1 with
 |none=>ev x=false
 |some p=>SeqAt.EqAt A s x.2.2 p.2 (ev x)
theorem same_pairsH {nm:String}{a b:Addr}{xa xb:List (K×Addr×Value)}{ev:K×Addr×Value->Bool}{Q:Bool->Shared->Prop}(la:(a==sysModules)=false)(lb:(b==sysModules)=false)(hu:knd.room A)(da:s.heap.DictOfH knd a xa)(db:s.heap.DictOfH knd b xb)(pe:PairsEq A s xa xb ev)(h:Q (decide (xa.length=xb.length)&&xa.all ev) s):wpAny (model prog w) A (Builtin.Dict.samePairs nm a b) Q E s:=by
 obtain⟨oa,ea,pa,ga,_,fa,ta,isa,nda⟩:=da
 obtain⟨ob,eb,pb,gb,_,fb,tb,isb,ndb⟩:=db
 have za:ea.size=xa.length:=size_of_entries ta
 have zb:eb.size=xb.length:=size_of_entries tb
 unfold Builtin.Dict.samePairs Builtin.Dict.showsAll
 rw[if_neg (by rw[la];decide),if_neg (by rw[lb];decide)]
 refine wpAny_bind (wpAny_pure (wpAny_bind (wpAny_pure (wpAny_bind (wpAny_dictEntries ga fa ?_)))))
 dsimp only
 refine wpAny_bind (wpAny_dictEntries gb fb ?_)
 by_cases hs:ea.size=eb.size
 ·rw[if_neg (by rw[hs];simp)]
  rw[decide_eq_true (by rw[<-za,<-zb];exact hs),Bool.true_and] at h
  refine wpAny_bind (wpAny_dictEpoch ga fa (wpAny_bind ?_))
  rw[Std.Legacy.Range.forIn_eq_forIn_range']
  simp only[Std.Legacy.Range.size,Nat.sub_zero,Nat.add_sub_cancel,Nat.div_one]
  refine wpAny_forIn_list _ (fun rest q s'=>s'=s/\q=(none,())/\∃i,rest=List.range' i (ea.size - i)/\i<=ea.size/\Q ((xa.drop i).all ev) s) _ ?_ ?_ _ _ ⟨rfl,rfl,0,by simp,Nat.zero_le _,by simpa using h⟩
  ·rintro x rest q s' ⟨rfl,rfl,i,hr,hi,hq⟩
   have lt:i<ea.size:=by
    refine Nat.lt_of_not_le fun z=>?_
    rw[Nat.sub_eq_zero_of_le z] at hr
    simp at hr
   obtain⟨rfl,hrest⟩:x=i/\rest=List.range' (i+1) (ea.size - (i+1)):=by
    rw[show ea.size - i=(ea.size - (i+1))+1 by omega,List.range'_succ] at hr
    injection hr with r1 r2
    exact⟨r1,r2⟩
   have lx:x<xa.length:=by rw[<-za];exact lt
   have ex:ea[x]?=some (entryOfKey knd xa[x]):=by rw[entry_at ta x,List.getElem?_eq_getElem lx];rfl
   have hx:=pe xa[x] (List.getElem_mem lx)
   have ix:=isa xa[x] (List.getElem_mem lx)
   rw[List.drop_eq_getElem_cons lx,List.all_cons] at hq
   generalize xa[x]=y at ex hx ix hq
   obtain⟨k,c,v⟩:=y
   refine wpAny_bind (wpAny_dictEntries ga fa ?_)
   rw[ex]
   dsimp only[entryOfKey]
   refine wpAny_bind (wpAny_holding (wpAny_bind (wpAny_dictFind_heap hu ix gb fb tb isb ndb (fun no=>?_) fun j p hj=>?_)))
   ·have nk:atKey xb k=none:=atKey_none_of_get no
    dsimp only at hx
    rw[nk] at hx
    rw[hx,Bool.false_and] at hq
    refine wpAny_pure ?_
    show wpAny _ _ (if(!false)=true then _ else _) _ _ _
    rw[if_pos (by decide)]
    exact wpAny_pure (wpAny_pure hq)
   ·have sk:atKey xb k=some p:=atKey_of_get ndb hj
    dsimp only at hx
    rw[sk] at hx
    refine wpAny_bind (wpAny_dictEntries gb fb ?_)
    rw[entry_at tb j,hj]
    dsimp only[Option.map,entryOfKey]
    refine wpAny_holding (hx prog w _ _ ?_)
    cases z:ev (k,c,v) with
    |false =>
     rw[z,Bool.false_and] at hq
     show wpAny _ _ (if(!false)=true then _ else _) _ _ _
     rw[if_pos (by decide)]
     exact wpAny_pure (wpAny_pure hq)
    |true =>
     rw[z,Bool.true_and] at hq
     show wpAny _ _ (if(!true)=true then _ else _) _ _ _
     rw[if_neg (by decide)]
     refine wpAny_bind (wpAny_dictEpoch ga fa ?_)
     rw[if_neg (by simp)]
     exact wpAny_pure ⟨rfl,rfl,x+1,hrest,lt,hq⟩
  ·rintro q s' ⟨rfl,rfl,i,hr,hi,hq⟩
   have ei:i=ea.size:=by
    refine Nat.le_antisymm hi (Nat.le_of_not_lt fun z=>?_)
    rw[show ea.size - i=(ea.size - (i+1))+1 by omega,List.range'_succ] at hr
    cases hr
   rw[ei,za,List.drop_length] at hq
   exact wpAny_pure hq
 ·rw[if_pos (by simpa using hs)]
  rw[decide_eq_false (by rw[<-za,<-zb];exact hs),Bool.false_and] at h
  exact wpAny_bind (wpAny_rule (wpAny_pure h))
theorem dicts_eq {a b:Addr}{xa xb:List (K×Addr×Value)}{ev:K×Addr×Value->Bool}{Q:Value->Shared->Prop}(la:(a==sysModules)=false)(lb:(b==sysModules)=false)(hu:knd.room A.in1)(hc:A.units<cLine)(da:s.heap.DictOfH knd a xa)(db:s.heap.DictOfH knd b xb)(pe:PairsEq A.in1 s xa xb ev)(h:Q (.bool (decide (xa.length=xb.length)&&xa.all ev)) s):wpAny (model prog w) A (compareOp .Eq (.ref a) (.ref b)) Q E s:=by
 have ta:=da.typeIs
 have tb:=db.typeIs
 refine wpAny_richCompare_same_room (op:=.Eq) ta tb PySem.F.slot_dict_eq (wpAny_call_entry PySem.F.slot_dict_eq ta PySem.F.entry_dict_eq ?_ (PySem.F.args_dict_eq_2 _ _)) hc
 show wpAny _ _ (Builtin.Dict.dictSlotArgs "__eq__" ⟨[.ref a,.ref b],[]⟩>>=_) _ _ s
 refine wpAny_bind ?_
 unfold Builtin.Dict.dictSlotArgs
 refine wpAny_bind (wpAny_notOrdered_dict ta (wpAny_pure (wpAny_bind (wpAny_isInstance (T := "dict") tb PySem.F.sub_dict_dict ?_))))
 simp only[Bool.not_true,Bool.false_eq_true,if_false]
 refine wpAny_bind (wpAny_pure (wpAny_bind (wpAny_pure (wpAny_bind (same_pairsH la lb hu da db pe (wpAny_pure ⟨_,rfl,by simp,?_⟩))))))
 simpa using h
theorem dicts_ne {a b:Addr}{xa xb:List (K×Addr×Value)}{ev:K×Addr×Value->Bool}{Q:Value->Shared->Prop}(la:(a==sysModules)=false)(lb:(b==sysModules)=false)(hu:knd.room A.in1)(hc:A.units<cLine)(da:s.heap.DictOfH knd a xa)(db:s.heap.DictOfH knd b xb)(pe:PairsEq A.in1 s xa xb ev)(h:Q (.bool (!(decide (xa.length=xb.length)&&xa.all ev))) s):wpAny (model prog w) A (compareOp .NotEq (.ref a) (.ref b)) Q E s:=by
 have ta:=da.typeIs
 have tb:=db.typeIs
 refine wpAny_richCompare_same_room (op:=.NotEq) ta tb PySem.F.slot_dict_ne (wpAny_call_entry PySem.F.slot_dict_ne ta PySem.F.entry_dict_ne ?_ (PySem.F.args_dict_ne_2 _ _)) hc
 show wpAny _ _ (Builtin.Dict.dictSlotArgs "__ne__" ⟨[.ref a,.ref b],[]⟩>>=_) _ _ s
 refine wpAny_bind ?_
 unfold Builtin.Dict.dictSlotArgs
 refine wpAny_bind (wpAny_notOrdered_dict ta (wpAny_pure (wpAny_bind (wpAny_isInstance (T := "dict") tb PySem.F.sub_dict_dict ?_))))
 simp only[Bool.not_true,Bool.false_eq_true,if_false]
 refine wpAny_bind (wpAny_pure (wpAny_bind (wpAny_pure (wpAny_bind (same_pairsH la lb hu da db pe (wpAny_pure ⟨_,rfl,by simp,?_⟩))))))
 simpa using h
end
end PySem
set_option maxHeartbeats 4000000
set_option linter.all false
set_option maxRecDepth 100000
namespace DL
open PySem PySem.Spec PyProof.Rows L2
theorem paired_getR {α β:Type}{F:α->β->Prop}:∀{l:List α} {m:List β},Paired F l m->∀{i:Nat} {b:β},m[i]?=some b->∃a,l[i]?=some a/\F a b
 |_,_,.nil,i,b,e=>by simp at e
 |_,_,.cons h t,0,b,e=>by simp at e;subst e;exact⟨_,rfl,h⟩
 |_,_,.cons h t,i+1,b,e=>by
  obtain⟨a,e1,e2⟩:=paired_getR t (i:=i) (by simpa using e)
  exact⟨a,by simpa using e1,e2⟩
theorem getD_self {κ:Type}[DecidableEq κ]:∀{l:List (κ×D)},(l.map (·.1)).Nodup->∀{kv:κ×D},kv∈l->getD' l kv.1=some kv.2
 |[],_,kv,h=>by cases h
 |x::l,nd,kv,h=>by
  rw[List.map_cons,List.nodup_cons] at nd
  unfold getD'
  rw[List.find?_cons]
  by_cases e:x.1=kv.1
  ·rw[decide_eq_true e]
   rcases List.mem_cons.mp h with rfl|h
   ·rfl
   ·exact(nd.1 (List.mem_map.mpr ⟨kv,h,e.symm⟩)).elim
  ·rw[decide_eq_false e]
   rcases List.mem_cons.mp h with rfl|h
   ·exact absurd rfl e
   ·exact getD_self nd.2 h
def evK (ka kb:List (List Key×D))(x:List Key×Addr×Value):Bool:=match getD' ka x.1,getD' kb x.1 with
 |some d,some e=>D.eq d e
 |_,_=>false
section
variable {X:Cx} {pins:List (Addr×Obj)} {σ:L2.St} {H:Hp} {s:Shared}
theorem keys_eq {K:PySem.W.Frag}{ka:List (List Key×D)}{ya:List (List Key×V)}{xa:List (List Key×Addr×Value)}(ra:RepKV K H ka ya)(ta:KT H ya xa):ka.map (·.1)=xa.map (·.1):=by
 have h1:ka.map (·.1)=ya.map (·.1):=by
  clear ta
  induction ra with
  |nil=>rfl
  |cons h t ih=>rw[List.map_cons,List.map_cons,ih,h.1]
 have h2:ya.map (·.1)=xa.map (·.1):=by
  clear h1 ra
  induction ta with
  |nil=>rfl
  |cons h t ih=>rw[List.map_cons,List.map_cons,ih,h.1]
 rw[h1,h2]
theorem pairs_eq (I:Inv X pins σ H s)(hu:X.A.units+64<cLine){ka kb:List (List Key×D)}{ya yb:List (List Key×V)}{xa xb:List (List Key×Addr×Value)}(ra:RepKV X.K H ka ya)(rb:RepKV X.K H kb yb)(ta:KT H ya xa)(tb:KT H yb xb)(nd:(xa.map (·.1)).Nodup)(hd:∀kv∈ka,kv.2.dep<=60) :
  PairsEq X.A.in1 s xa xb (evK ka kb)/\(decide (xa.length=xb.length)&&xa.all (evK ka kb))=sameD ka kb:=by
 have ke:=keys_eq ra ta
 have nk:(ka.map (·.1)).Nodup:=by rw[ke];exact nd
 have get:∀{j:Nat} {x:List Key×Addr×Value},xa[j]?=some x->∃kv y,ka[j]?=some kv/\kv.1=x.1/\Rep X.K H kv.2 y/\RelV y x.2.2:=fun {j x} e=>by
  obtain⟨y,e1,e2,_,e3⟩:=paired_getR ta e
  obtain⟨kv,e4,e5,e6⟩:=paired_getR ra e1
  exact⟨kv,y.2,e4,e5.trans e2,e6,e3⟩
 refine⟨fun x hx=>?_,?_⟩
 ·obtain⟨j,hj⟩:=List.getElem?_of_mem hx
  obtain⟨kv,y,e1,e2,e3,e4⟩:=get hj
  have hk:=List.mem_of_getElem? e1
  have g1:getD' ka x.1=some kv.2:=by rw[<-e2];exact getD_self nk hk
  have ev:evK ka kb x=match getD' kb x.1 with
   |some e=>D.eq kv.2 e
   |none=>false:=by
   unfold evK
   rw[g1]
   cases getD' kb x.1<;>rfl
  rw[ev]
  have rv:=tb.val x.1
  cases q:getD' kb x.1 with
  |none =>
   rw[rb.none x.1 q] at rv
   have z:=RelO.none_of rv
   cases w:atKey xb x.1 with
   |none=>rfl
   |some p=>rw[w] at z;cases z
  |some d' =>
   obtain⟨v,ev',rd⟩:=rb.get x.1 q
   rw[ev'] at rv
   obtain⟨u,z,ru⟩:=RelO.some_of rv
   cases w:atKey xb x.1 with
   |none=>rw[w] at z;cases z
   |some p =>
    rw[w] at z
    cases z
    have:=hd kv hk
    exact(cmp_at I kv.2 d' X.A.in1 y v _ _ (by show X.A.units+1+_<_;lia) e3 rd e4 ru).eq
 ·have la:xa.length=ka.length:=by rw[<-List.length_map (f:=(·.1)),<-ke,List.length_map]
  have lb:xb.length=kb.length:=by rw[<-List.length_map (f:=(·.1)),<-keys_eq rb tb,List.length_map]
  unfold sameD
  rw[la,lb]
  congr 1
  have e1:xa.all (evK ka kb)=(xa.map (·.1)).all (fun k=>match getD' ka k,getD' kb k with
   |some d,some e=>D.eq d e
   |_,_=>false):=by rw[List.all_map];rfl
  rw[e1,<-ke,List.all_map]
  refine Bool.eq_iff_iff.mpr ?_
  rw[List.all_eq_true,List.all_eq_true]
  refine forall_congr' fun kv=>forall_congr' fun hk=>?_
  show(match getD' ka kv.1,getD' kb kv.1 with
   |some d,some e=>D.eq d e
   |_,_=>false)=true↔_
  rw[getD_self nk hk]
  cases getD' kb kv.1<;>rfl
end
def rDEq (K:PySem.W.Frag)(neg:Bool):R2:=fun x y H Q=>∃a b ka kb ya yb,x=.ref a/\y=.ref b/\H a=some (.dT ya)/\H b=some (.dT yb)/\RepKV K H ka ya/\RepKV K H kb yb/\(∀kv∈ka,kv.2.dep<=60)/\Q (.bl (if neg then !sameD ka kb else sameD ka kb)) H
section
variable {X:Cx} {E:XK} {pos p p2 q1 q2:Pos} {f:Str} {e1 e2:Expr} {fa fb:DSt->M (List D)}
theorem op_deq (hu:X.A.units+64<cLine):OpR X (compareOp .Eq) (rDEq X.K false):=by
 intro pins s σ H x y v u Q I rx ry h
 obtain⟨a,b,ka,kb,ya,yb,rfl,rfl,ha,hb,ra,rb,hd,q⟩:=h
 obtain rfl:v=Value.ref a:=rx
 obtain rfl:u=Value.ref b:=ry
 obtain⟨_,la,xa,ta,da⟩:=dt_rd I.hok (.inl ha)
 obtain⟨_,lb,xb,tb,db⟩:=dt_rd I.hok (.inl hb)
 have nd:(xa.map (·.1)).Nodup:=by obtain⟨_,_,_,_,_,_,_,_,z⟩:=da;exact z
 obtain⟨pe,es⟩:=pairs_eq I hu ra rb ta tb nd hd
 refine dicts_eq la lb (tupleKind_room_in1 (by lia)) (by lia) da db pe ⟨.bl _,H,I,rfl,?_⟩
 rw[es]
 exact q
theorem op_dne (hu:X.A.units+64<cLine):OpR X (compareOp .NotEq) (rDEq X.K true):=by
 intro pins s σ H x y v u Q I rx ry h
 obtain⟨a,b,ka,kb,ya,yb,rfl,rfl,ha,hb,ra,rb,hd,q⟩:=h
 obtain rfl:v=Value.ref a:=rx
 obtain rfl:u=Value.ref b:=ry
 obtain⟨_,la,xa,ta,da⟩:=dt_rd I.hok (.inl ha)
 obtain⟨_,lb,xb,tb,db⟩:=dt_rd I.hok (.inl hb)
 have nd:(xa.map (·.1)).Nodup:=by obtain⟨_,_,_,_,_,_,_,_,z⟩:=da;exact z
 obtain⟨pe,es⟩:=pairs_eq I hu ra rb ta tb nd hd
 refine dicts_ne la lb (tupleKind_room_in1 (by lia)) (by lia) da db pe ⟨.bl _,H,I,rfl,?_⟩
 rw[es]
 exact q
theorem putD_dep {n:Nat}{kvs:List (List Key×D)}{k:List Key}{d:D}(h:∀kv∈kvs,kv.2.dep<=n)(hd:d.dep<=n):∀kv∈putD kvs k d,kv.2.dep<=n:=fun kv hk=>by
 unfold putD at hk
 split at hk
 ·obtain⟨x,hx,rfl⟩:=List.mem_map.mp hk
  split
  ·exact hd
  ·exact h x hx
 ·rcases List.mem_append.mp hk with z|z
  ·exact h kv z
  ·rw[List.mem_singleton.mp z];exact hd
theorem allD_dep {n:Nat}:∀(rs kvs:List (List Key×D)),(∀kv∈rs,kv.2.dep<=n)->(∀kv∈kvs,kv.2.dep<=n)->∀kv∈rs.foldl (fun kvs r=>putD kvs r.1 r.2) kvs,kv.2.dep<=n
 |[],kvs,_,h=>h
 |r::rs,kvs,hr,h=>allD_dep rs _ (fun kv hk=>hr kv (List.mem_cons_of_mem _ hk)) (putD_dep h (hr r List.mem_cons_self))
theorem pairs_dep:∀{ds:List D} {rs:List (List Key×D)},pairsD ds=some rs->∀kv∈rs,kv.2.dep<=D.deps ds
 |[],rs,e,kv,hk=>by
  simp only[pairsD] at e
  cases e
  cases hk
 |d::ds,rs,e,kv,hk=>by
  simp only[pairsD] at e
  split at e
  ·rename_i p ps ep es
   cases e
   rw[D.deps]
   rcases List.mem_cons.mp hk with rfl|hk
   ·unfold pairD at ep
    split at ep
    ·rename_i ks v
     obtain⟨k,e1,e2⟩:=Option.map_eq_some_iff.mp ep
     subst e2
     simp only[D.dep,D.deps]
     lia
    ·cases ep
   ·have:=pairs_dep es kv hk
    lia
  ·cases e
theorem deq_core {neg:Bool}{ta tb:TA}{H0:Hp}{B:Addr->Prop}{Hf:Hp}{sd:DSt}{σ:L2.St}{H:Hp}{Q:VK}(qa:∀(H0:Hp) (B:Addr->Prop) (Hf:Hp) (sd:DSt) (σ:L2.St) (H:Hp) (Q:List V->Hp->Prop),SR X.K H0 B Hf sd σ H->Po X.K E (rA X.K) Hf H (fa sd) Q->ta σ H Q)(qb:∀(H0:Hp) (B:Addr->Prop) (Hf:Hp) (sd:DSt) (σ:L2.St) (H:Hp) (Q:List V->Hp->Prop),SR X.K H0 B Hf sd σ H->Po X.K E (rA X.K) Hf H (fb sd) Q->tb σ H Q)(sr:SR X.K H0 B Hf sd σ H)(h:Po X.K E (rV X.K) Hf H (eDEq neg fa fb sd) Q) :
  ta σ H fun xs H1=>∃p zs rs,xs=[.ref p]/\SqL X.K H1 p zs/\PairV H1 zs rs/\∀l,H1 l=none->tb σ (upd H1 l (.dT (allK rs))) fun xs2 H2=>∃p2 zs2 rs2,xs2=[.ref p2]/\SqL X.K H2 p2 zs2/\PairV H2 zs2 rs2/\∀l2,H2 l2=none->rDEq X.K neg (.ref l) (.ref l2) (upd H2 l2 (.dT (allK rs2))) Q:=by
 unfold eDEq at h
 split at h
 ·rename_i xs ys ea eb
  split at h
  ·rename_i a b pa pb
   split at h
   ·rename_i hf
    rw[Bool.and_eq_true] at hf
    have hd:=of_decide_eq_true hf.2
    refine qa H0 B Hf sd σ H _ sr ?_
    rw[ea]
    intro vs Hf1 H1 g1 rs
    obtain⟨z,rfl,rz⟩:=reps1 rs
    obtain⟨q,zs,rfl,hq,hr⟩:=rep_lst.mp rz
    obtain⟨ya,y1,y2⟩:=pairs_rep g1.sub pa hr
    refine⟨q,zs,ya,rfl,g1.sub.seq hq,y1,fun l hl=>?_⟩
    have g2:=Gr.alloc g1.sub hl (.dT (allK ya))
    refine qb H0 B _ sd σ _ _ ((sr.gr g1).gr g2) ?_
    rw[eb]
    intro vs2 Hf2 H2 g3 rs2
    obtain⟨z2,rfl,rz2⟩:=reps1 rs2
    obtain⟨q2,zs2,rfl,hq2,hr2⟩:=rep_lst.mp rz2
    obtain⟨yb,w1,w2⟩:=pairs_rep g3.sub pb hr2
    refine⟨q2,zs2,yb,rfl,g3.sub.seq hq2,w1,fun l2 hl2=>?_⟩
    have g4:=Gr.alloc g3.sub hl2 (.dT (allK yb))
    have r1:RepKV X.K Hf1 (allD a) (allK ya):=RepKV.all y2 .nil
    have r2:RepKV X.K Hf2 (allD b) (allK yb):=RepKV.all w2 .nil
    have hl':H2 l=some (.dT (allK ya)):=g3.all _ _ upd_same
    refine⟨l,l2,allD a,allD b,allK ya,allK yb,rfl,rfl,g4.all _ _ hl',upd_same,r1.mono (g2.fz.trans (g3.fz.trans (g4.fz.trans g4.sub))),r2.mono (g4.fz.trans g4.sub),fun kv hk=>?_,?_⟩
    ·exact Nat.le_trans (allD_dep a [] (pairs_dep pa) (fun _ z=>nomatch z) kv hk) hd
    ·exact h _ _ _ (g1.trans (g2.trans (g3.trans g4))) (rep_bl.mpr rfl)
   ·exact h.elim
  ·exact h.elim
 ·exact h.elim
theorem pd_deq (hu:X.A.units+64<cLine)(hc:X.calm=true)(hg:Gl X f)(hm:X.mg f=none) (hv:bootBuiltins f=some (.type "dict")) (ha:PAd X E [e1] fa) (hb:PAd X E [e2] fb)
  (hn:f ≠ "__name__" := by decide) (hdb:(f==("__debug__" : Str))=false:=by decide) (he1:starEach [e1] X.env=(false,eval e1 X.env)::starEach [] X.env:=by rfl) (he2:starEach [e2] X.env=(false,eval e2 X.env)::starEach [] X.env:=by rfl)
  (hp1:(backTo q1 (starEach [] X.env)).any (·.1)=false:=by rfl) (hp2:(backTo q2 (starEach [] X.env)).any (·.1)=false:=by rfl) :
  PEd X E (.Compare (.Call (.Name f p) [e1] [] q1) [.Eq] [.Call (.Name f p2) [e2] [] q2] pos) (eDEq false fa fb):=by
 obtain⟨ta,pa,qa⟩:=ha
 obtain⟨tb,pb,qb⟩:=hb
 exact⟨_,pe_cmpR (op_deq hu) (pe_callTy (call_dict hu hc) hg hm hv pa hn hdb he1 hp1) (pe_callTy (call_dict hu hc) hg hm hv pb hn hdb he2 hp2) (by with_unfolding_all rfl),fun H0 B Hf sd σ H Q sr h=>deq_core qa qb sr h⟩
theorem ptd_dne (hu:X.A.units+64<cLine)(hc:X.calm=true)(hg:Gl X f)(hm:X.mg f=none) (hv:bootBuiltins f=some (.type "dict")) (ha:PAd X E [e1] fa) (hb:PAd X E [e2] fb)
  (hn:f ≠ "__name__" := by decide) (hdb:(f==("__debug__" : Str))=false:=by decide) (he1:starEach [e1] X.env=(false,eval e1 X.env)::starEach [] X.env:=by rfl) (he2:starEach [e2] X.env=(false,eval e2 X.env)::starEach [] X.env:=by rfl)
  (hp1:(backTo q1 (starEach [] X.env)).any (·.1)=false:=by rfl) (hp2:(backTo q2 (starEach [] X.env)).any (·.1)=false:=by rfl) :
  PTd X E (.Compare (.Call (.Name f p) [e1] [] q1) [.NotEq] [.Call (.Name f p2) [e2] [] q2] pos) (DL.tB (eDEq true fa fb)):=by
 obtain⟨ta,pa,qa⟩:=ha
 obtain⟨tb,pb,qb⟩:=hb
 exact⟨_,pt_cmpR (op_dne hu) (pe_callTy (call_dict hu hc) hg hm hv pa hn hdb he1 hp1) (pe_callTy (call_dict hu hc) hg hm hv pb hn hdb he2 hp2) (by with_unfolding_all rfl),fun H0 B Hf sd σ H Q sr h=>deq_core qa qb sr (po_asB h)⟩
end
end DL
set_option maxRecDepth 100000
set_option maxHeartbeats 4000000
namespace Law
open PySem L2 DL
def top (i:Nat):Stmt:=PySem.Challenge.pw_selfsight_k31_whole_seen_by_the_other.main.body.getD i (.Pass ⟨0,0,0,0⟩)
abbrev s_common_divisor:Stmt:=top 1
abbrev s_amount:Stmt:=top 2
abbrev s_plus:Stmt:=top 3
abbrev s_minus:Stmt:=top 4
abbrev s_below:Stmt:=top 5
abbrev s_direction:Stmt:=top 8
abbrev s_folded_out:Stmt:=top 10
abbrev s_image_at:Stmt:=top 11
abbrev s_cells_within:Stmt:=top 12
abbrev s_rim_points:Stmt:=top 13
abbrev s_things_in:Stmt:=top 14
abbrev s_step_to:Stmt:=top 15
abbrev s_length:Stmt:=top 16
abbrev s_first_things:Stmt:=top 17
abbrev s_cells:Stmt:=top 18
abbrev s_how_many:Stmt:=top 19
abbrev s_l_cell:Stmt:=top 21
abbrev s_l_numbers:Stmt:=top 22
abbrev s_l_lowest:Stmt:=top 23
abbrev s_l_part:Stmt:=top 24
abbrev s_l_point:Stmt:=top 25
abbrev s_l_people:Stmt:=top 26
abbrev s_l_drawn:Stmt:=top 27
abbrev s_l_seen:Stmt:=top 28
abbrev s_l_back:Stmt:=top 29
abbrev s_law:Stmt:=top 30
section
variable {P:Program} {w:World} {K:PySem.W.Frag} {mg:Str->Option Value} {base:Heap}
noncomputable def F_common_divisor:List D->M S:=fnD 2 3
  (sSeq (sSet 2 (eCB bAbs (aCons (eVar 0) aNil)))
   (sSeq (sSet 3 (eCB bAbs (aCons (eVar 1) aNil)))
   (sSeq (sWhile (tB (eOp gNe (eVar 3) (eC (.int 0)))) (sSeq (sSet 4 (eOp gMod (eVar 2) (eVar 3)))
   (sSeq (sSet 2 (eVar 3))
   (sSet 3 (eVar 4)))))
   (sRet (eVar 2)))))
theorem sc_common_divisor:FnScope ["one", "other", "greater", "lesser", "rest"] ["one", "other"] (defScope s_common_divisor):=⟨rfl,rfl,rfl,by decide +kernel,rfl,by decide +kernel,by decide +kernel⟩
theorem ok_common_divisor {f:Addr}{fd:FuncData} (F:Fun K "common_divisor" "common_divisor" s_common_divisor f fd) (z_abs:mg "abs" = none):FnOk P w K mg base CX0 1 f fd ["one", "other"] (spN K F_common_divisor) :=
 fn_d F sc_common_divisor rfl rfl fun cdv A outer s H E hr =>
  (psd_cons (psd_set 2 sc_common_divisor.nd (pd_callB cd_abs (by rfl) z_abs (by rfl) (pad_cons (pd_var 0) pad_nil)))
   (psd_cons (psd_set 3 sc_common_divisor.nd (pd_callB cd_abs (by rfl) z_abs (by rfl) (pad_cons (pd_var 1) pad_nil)))
   (psd_cons (psd_while PassesOwn.never (ptd_cmp (od_ne hr.units) (pd_var 3) pd_int (nomark _)) (psd_cons (psd_set 4 sc_common_divisor.nd (pd_op od_mod (pd_var 2) (pd_var 3)))
   (psd_cons (psd_set 2 sc_common_divisor.nd (pd_var 3))
   (psd_one (psd_set 3 sc_common_divisor.nd (pd_var 4))))))
   (psd_one (psd_ret (pd_var 2))))))
noncomputable def F_amount:List D->M S:=fnD 2 1
  (sSeq (sSet 2 (eCall F_common_divisor (aCons (eVar 0) (aCons (eVar 1) aNil))))
   (sRet (eTup (aCons (eOp gFdiv (eVar 0) (eVar 2)) (aCons (eOp gFdiv (eVar 1) (eVar 2)) aNil)))))
theorem sc_amount:FnScope ["top", "bottom", "divisor"] ["top", "bottom"] (defScope s_amount):=⟨rfl,rfl,rfl,by decide +kernel,rfl,by decide +kernel,by decide +kernel⟩
theorem ok_amount {f:Addr}{fd:FuncData} (F:Fun K "amount" "amount" s_amount f fd) {f_common_divisor:Addr} {fd_common_divisor:FuncData} (G_common_divisor:FnOk P w K mg base CX0 1 f_common_divisor fd_common_divisor ["one", "other"] (spN K F_common_divisor)) (b_common_divisor:Binds K fd_common_divisor ["one", "other"] []) (k_common_divisor:PySem.W.keepIn K (.ref f_common_divisor)=true) (m_common_divisor:mg "common_divisor" = some (.ref f_common_divisor)):FnOk P w K mg base CX0 2 f fd ["top", "bottom"] (spN K F_amount) :=
 fn_d F sc_amount rfl rfl fun cdv A outer s H E hr =>
  (psd_cons (psd_set 2 sc_amount.nd (pd_call G_common_divisor (hr.mono (by decide)) m_common_divisor k_common_divisor b_common_divisor (pad_cons (pd_var 0) (pad_cons (pd_var 1) pad_nil))))
   (psd_one (psd_ret (pd_tup (pad_cons (pd_op od_fdiv (pd_var 0) (pd_var 2)) (pad_cons (pd_op od_fdiv (pd_var 1) (pd_var 2)) pad_nil))))))
noncomputable def F_plus:List D->M S:=fnD 2 0
  (sRet (eCall F_amount (aCons (eOp gPlus (eOp gTimes (eOp gIx (eVar 0) (eC (.int 0))) (eOp gIx (eVar 1) (eC (.int 1)))) (eOp gTimes (eOp gIx (eVar 1) (eC (.int 0))) (eOp gIx (eVar 0) (eC (.int 1))))) (aCons (eOp gTimes (eOp gIx (eVar 0) (eC (.int 1))) (eOp gIx (eVar 1) (eC (.int 1)))) aNil))))
theorem sc_plus:FnScope ["one", "other"] ["one", "other"] (defScope s_plus):=⟨rfl,rfl,rfl,by decide +kernel,rfl,by decide +kernel,by decide +kernel⟩
theorem ok_plus {f:Addr}{fd:FuncData} (F:Fun K "plus" "plus" s_plus f fd) {f_amount:Addr} {fd_amount:FuncData} (G_amount:FnOk P w K mg base CX0 2 f_amount fd_amount ["top", "bottom"] (spN K F_amount)) (b_amount:Binds K fd_amount ["top", "bottom"] []) (k_amount:PySem.W.keepIn K (.ref f_amount)=true) (m_amount:mg "amount" = some (.ref f_amount)):FnOk P w K mg base CX0 3 f fd ["one", "other"] (spN K F_plus) :=
 fn_d F sc_plus rfl rfl fun cdv A outer s H E hr =>
  (psd_one (psd_ret (pd_call G_amount (hr.mono (by decide)) m_amount k_amount b_amount (pad_cons (pd_op od_plus (pd_op od_times (pd_ix (pd_var 0) pd_int (fun _ _=>rfl)) (pd_ix (pd_var 1) pd_int (fun _ _=>rfl))) (pd_op od_times (pd_ix (pd_var 1) pd_int (fun _ _=>rfl)) (pd_ix (pd_var 0) pd_int (fun _ _=>rfl)))) (pad_cons (pd_op od_times (pd_ix (pd_var 0) pd_int (fun _ _=>rfl)) (pd_ix (pd_var 1) pd_int (fun _ _=>rfl))) pad_nil)))))
noncomputable def F_minus:List D->M S:=fnD 2 0
  (sRet (eCall F_amount (aCons (eOp gSub (eOp gTimes (eOp gIx (eVar 0) (eC (.int 0))) (eOp gIx (eVar 1) (eC (.int 1)))) (eOp gTimes (eOp gIx (eVar 1) (eC (.int 0))) (eOp gIx (eVar 0) (eC (.int 1))))) (aCons (eOp gTimes (eOp gIx (eVar 0) (eC (.int 1))) (eOp gIx (eVar 1) (eC (.int 1)))) aNil))))
theorem sc_minus:FnScope ["one", "other"] ["one", "other"] (defScope s_minus):=⟨rfl,rfl,rfl,by decide +kernel,rfl,by decide +kernel,by decide +kernel⟩
theorem ok_minus {f:Addr}{fd:FuncData} (F:Fun K "minus" "minus" s_minus f fd) {f_amount:Addr} {fd_amount:FuncData} (G_amount:FnOk P w K mg base CX0 2 f_amount fd_amount ["top", "bottom"] (spN K F_amount)) (b_amount:Binds K fd_amount ["top", "bottom"] []) (k_amount:PySem.W.keepIn K (.ref f_amount)=true) (m_amount:mg "amount" = some (.ref f_amount)):FnOk P w K mg base CX0 3 f fd ["one", "other"] (spN K F_minus) :=
 fn_d F sc_minus rfl rfl fun cdv A outer s H E hr =>
  (psd_one (psd_ret (pd_call G_amount (hr.mono (by decide)) m_amount k_amount b_amount (pad_cons (pd_op od_sub (pd_op od_times (pd_ix (pd_var 0) pd_int (fun _ _=>rfl)) (pd_ix (pd_var 1) pd_int (fun _ _=>rfl))) (pd_op od_times (pd_ix (pd_var 1) pd_int (fun _ _=>rfl)) (pd_ix (pd_var 0) pd_int (fun _ _=>rfl)))) (pad_cons (pd_op od_times (pd_ix (pd_var 0) pd_int (fun _ _=>rfl)) (pd_ix (pd_var 1) pd_int (fun _ _=>rfl))) pad_nil)))))
noncomputable def F_below:List D->M S:=fnD 2 0
  (sRet (eOp gLt (eOp gTimes (eOp gIx (eVar 0) (eC (.int 0))) (eOp gIx (eVar 1) (eC (.int 1)))) (eOp gTimes (eOp gIx (eVar 1) (eC (.int 0))) (eOp gIx (eVar 0) (eC (.int 1))))))
theorem sc_below:FnScope ["one", "other"] ["one", "other"] (defScope s_below):=⟨rfl,rfl,rfl,by decide +kernel,rfl,by decide +kernel,by decide +kernel⟩
theorem ok_below {f:Addr}{fd:FuncData} (F:Fun K "below" "below" s_below f fd)  : FnOk P w K mg base CX0 1 f fd ["one", "other"] (spN K F_below) :=
 fn_d F sc_below rfl rfl fun cdv A outer s H E hr =>
  (psd_one (psd_ret (pd_cmp od_lt (pd_op od_times (pd_ix (pd_var 0) pd_int (fun _ _=>rfl)) (pd_ix (pd_var 1) pd_int (fun _ _=>rfl))) (pd_op od_times (pd_ix (pd_var 1) pd_int (fun _ _=>rfl)) (pd_ix (pd_var 0) pd_int (fun _ _=>rfl))) (nomark _))))
noncomputable def F_direction:List D->M S:=fnD 1 3
  (sSeq (sSet 1 (eOp gTimes (eOp gIx (eOp gIx (eVar 0) (eC (.int 0))) (eC (.int 0))) (eOp gIx (eOp gIx (eVar 0) (eC (.int 1))) (eC (.int 1)))))
   (sSeq (sSet 2 (eOp gTimes (eOp gIx (eOp gIx (eVar 0) (eC (.int 1))) (eC (.int 0))) (eOp gIx (eOp gIx (eVar 0) (eC (.int 0))) (eC (.int 1)))))
   (sSeq (sSet 3 (eCall F_common_divisor (aCons (eVar 1) (aCons (eVar 2) aNil))))
   (sRet (eTup (aCons (eOp gFdiv (eVar 1) (eVar 3)) (aCons (eOp gFdiv (eVar 2) (eVar 3)) aNil)))))))
theorem sc_direction:FnScope ["step", "across", "upward", "divisor"] ["step"] (defScope s_direction):=⟨rfl,rfl,rfl,by decide +kernel,rfl,by decide +kernel,by decide +kernel⟩
theorem ok_direction {f:Addr}{fd:FuncData} (F:Fun K "direction" "direction" s_direction f fd) {f_common_divisor:Addr} {fd_common_divisor:FuncData} (G_common_divisor:FnOk P w K mg base CX0 1 f_common_divisor fd_common_divisor ["one", "other"] (spN K F_common_divisor)) (b_common_divisor:Binds K fd_common_divisor ["one", "other"] []) (k_common_divisor:PySem.W.keepIn K (.ref f_common_divisor)=true) (m_common_divisor:mg "common_divisor" = some (.ref f_common_divisor)):FnOk P w K mg base CX0 2 f fd ["step"] (spN K F_direction) :=
 fn_d F sc_direction rfl rfl fun cdv A outer s H E hr =>
  (psd_cons (psd_set 1 sc_direction.nd (pd_op od_times (pd_ix (pd_ix (pd_var 0) pd_int (fun _ _=>rfl)) pd_int (fun _ _=>rfl)) (pd_ix (pd_ix (pd_var 0) pd_int (fun _ _=>rfl)) pd_int (fun _ _=>rfl))))
   (psd_cons (psd_set 2 sc_direction.nd (pd_op od_times (pd_ix (pd_ix (pd_var 0) pd_int (fun _ _=>rfl)) pd_int (fun _ _=>rfl)) (pd_ix (pd_ix (pd_var 0) pd_int (fun _ _=>rfl)) pd_int (fun _ _=>rfl))))
   (psd_cons (psd_set 3 sc_direction.nd (pd_call G_common_divisor (hr.mono (by decide)) m_common_divisor k_common_divisor b_common_divisor (pad_cons (pd_var 1) (pad_cons (pd_var 2) pad_nil))))
   (psd_one (psd_ret (pd_tup (pad_cons (pd_op od_fdiv (pd_var 1) (pd_var 3)) (pad_cons (pd_op od_fdiv (pd_var 2) (pd_var 3)) pad_nil))))))))
noncomputable def F_folded_out:List D->M S:=fnD 3 1
  (sSeq (sSet 3 (eIf (tB (eOp gEq (eOp gMod (eVar 2) (eC (.int 2))) (eC (.int 1)))) (eCall F_minus (aCons (eTup (aCons (eVar 0) (aCons (eC (.int 1)) aNil))) (aCons (eVar 1) aNil))) (eVar 1)))
   (sRet (eCall F_plus (aCons (eTup (aCons (eOp gTimes (eVar 2) (eVar 0)) (aCons (eC (.int 1)) aNil))) (aCons (eVar 3) aNil)))))
theorem sc_folded_out:FnScope ["size", "place", "number", "within"] ["size", "place", "number"] (defScope s_folded_out):=⟨rfl,rfl,rfl,by decide +kernel,rfl,by decide +kernel,by decide +kernel⟩
theorem ok_folded_out {f:Addr}{fd:FuncData} (F:Fun K "folded_out" "folded_out" s_folded_out f fd) {f_minus:Addr} {fd_minus:FuncData} (G_minus:FnOk P w K mg base CX0 3 f_minus fd_minus ["one", "other"] (spN K F_minus)) (b_minus:Binds K fd_minus ["one", "other"] []) (k_minus:PySem.W.keepIn K (.ref f_minus)=true) (m_minus:mg "minus" = some (.ref f_minus)) {f_plus:Addr} {fd_plus:FuncData} (G_plus:FnOk P w K mg base CX0 3 f_plus fd_plus ["one", "other"] (spN K F_plus)) (b_plus:Binds K fd_plus ["one", "other"] []) (k_plus:PySem.W.keepIn K (.ref f_plus)=true) (m_plus:mg "plus" = some (.ref f_plus)):FnOk P w K mg base CX0 4 f fd ["size", "place", "number"] (spN K F_folded_out) :=
 fn_d F sc_folded_out rfl rfl fun cdv A outer s H E hr =>
  (psd_cons (psd_set 3 sc_folded_out.nd (pd_ifexp (ptd_cmp (od_eq hr.units) (pd_op od_mod (pd_var 2) pd_int) pd_int (nomark _)) (pd_call G_minus (hr.mono (by decide)) m_minus k_minus b_minus (pad_cons (pd_tup (pad_cons (pd_var 0) (pad_cons pd_int pad_nil))) (pad_cons (pd_var 1) pad_nil))) (pd_var 1)))
   (psd_one (psd_ret (pd_call G_plus (hr.mono (by decide)) m_plus k_plus b_plus (pad_cons (pd_tup (pad_cons (pd_op od_times (pd_var 2) (pd_var 0)) (pad_cons pd_int pad_nil))) (pad_cons (pd_var 3) pad_nil))))))
noncomputable def F_image_at:List D->M S:=fnD 4 0
  (sRet (eTup (aCons (eCall F_folded_out (aCons (eVar 0) (aCons (eOp gIx (eVar 2) (eC (.int 0))) (aCons (eOp gIx (eVar 3) (eC (.int 0))) aNil)))) (aCons (eCall F_folded_out (aCons (eVar 1) (aCons (eOp gIx (eVar 2) (eC (.int 1))) (aCons (eOp gIx (eVar 3) (eC (.int 1))) aNil)))) aNil))))
theorem sc_image_at:FnScope ["width", "height", "point", "cell"] ["width", "height", "point", "cell"] (defScope s_image_at):=⟨rfl,rfl,rfl,by decide +kernel,rfl,by decide +kernel,by decide +kernel⟩
theorem ok_image_at {f:Addr}{fd:FuncData} (F:Fun K "image_at" "image_at" s_image_at f fd) {f_folded_out:Addr} {fd_folded_out:FuncData} (G_folded_out:FnOk P w K mg base CX0 4 f_folded_out fd_folded_out ["size", "place", "number"] (spN K F_folded_out)) (b_folded_out:Binds K fd_folded_out ["size", "place", "number"] []) (k_folded_out:PySem.W.keepIn K (.ref f_folded_out)=true) (m_folded_out:mg "folded_out" = some (.ref f_folded_out)):FnOk P w K mg base CX0 5 f fd ["width", "height", "point", "cell"] (spN K F_image_at) :=
 fn_d F sc_image_at rfl rfl fun cdv A outer s H E hr =>
  (psd_one (psd_ret (pd_tup (pad_cons (pd_call G_folded_out (hr.mono (by decide)) m_folded_out k_folded_out b_folded_out (pad_cons (pd_var 0) (pad_cons (pd_ix (pd_var 2) pd_int (fun _ _=>rfl)) (pad_cons (pd_ix (pd_var 3) pd_int (fun _ _=>rfl)) pad_nil)))) (pad_cons (pd_call G_folded_out (hr.mono (by decide)) m_folded_out k_folded_out b_folded_out (pad_cons (pd_var 1) (pad_cons (pd_ix (pd_var 2) pd_int (fun _ _=>rfl)) (pad_cons (pd_ix (pd_var 3) pd_int (fun _ _=>rfl)) pad_nil)))) pad_nil)))))
noncomputable def F_cells_within:List D->M S:=fnD 1 4
  (sSeq (sOwn 1 (fLst aNil))
   (sSeq (sFor (iRange2 (aCons (eUn gNeg (eVar 0)) (aCons (eOp gPlus (eVar 0) (eC (.int 1))) aNil))) (gNm 2) (sSeq (sSet 3 (eOp gSub (eVar 0) (eCB bAbs (aCons (eVar 2) aNil))))
   (sFor (iRange2 (aCons (eUn gNeg (eVar 3)) (aCons (eOp gPlus (eVar 3) (eC (.int 1))) aNil))) (gNm 4) (sApp 1 (eTup (aCons (eVar 2) (aCons (eVar 4) aNil)))))))
   (sRetO 1)))
theorem sc_cells_within:FnScope ["most", "found", "i", "rest", "j"] ["most"] (defScope s_cells_within):=⟨rfl,rfl,rfl,by decide +kernel,rfl,by decide +kernel,by decide +kernel⟩
theorem ok_cells_within {f:Addr}{fd:FuncData} (F:Fun K "cells_within" "cells_within" s_cells_within f fd) (z_range:mg "range" = none) (z_abs:mg "abs" = none):FnOk P w K mg base CX0 1 f fd ["most"] (spN K F_cells_within) :=
 fn_d F sc_cells_within rfl rfl fun cdv A outer s H E hr =>
  (psd_cons (psd_own 1 sc_cells_within.nd (pfd_lst pad_nil))
   (psd_cons (psd_for PassesOwn.never rfl (pid_range2 (by rfl) z_range (pad_cons (pd_un ud_neg (pd_var 0)) (pad_cons (pd_op od_plus (pd_var 0) pd_int) pad_nil))) (pgd_name 2 sc_cells_within.nd) (psd_cons (psd_set 3 sc_cells_within.nd (pd_op od_sub (pd_var 0) (pd_callB cd_abs (by rfl) z_abs (by rfl) (pad_cons (pd_var 2) pad_nil))))
   (psd_one (psd_for PassesOwn.never rfl (pid_range2 (by rfl) z_range (pad_cons (pd_un ud_neg (pd_var 3)) (pad_cons (pd_op od_plus (pd_var 3) pd_int) pad_nil))) (pgd_name 4 sc_cells_within.nd) (psd_one (psd_app 1 (pd_tup (pad_cons (pd_var 2) (pad_cons (pd_var 4) pad_nil)))))))))
   (psd_one (psd_retO 1))))
noncomputable def F_rim_points:List D->M S:=fnD 2 3
  (sSeq (sOwn 2 (fLst aNil))
   (sSeq (sFor (iRange1 (aCons (eOp gPlus (eVar 0) (eC (.int 1))) aNil)) (gNm 3) (sFor (iRange1 (aCons (eOp gPlus (eVar 1) (eC (.int 1))) aNil)) (gNm 4) (sIf (tO (tB (eOp gIn (eVar 3) (eTup (aCons (eC (.int 0)) (aCons (eVar 0) aNil))))) (tB (eOp gIn (eVar 4) (eTup (aCons (eC (.int 0)) (aCons (eVar 1) aNil)))))) (sApp 2 (eTup (aCons (eTup (aCons (eVar 3) (aCons (eC (.int 1)) aNil))) (aCons (eTup (aCons (eVar 4) (aCons (eC (.int 1)) aNil))) aNil)))) sNil)))
   (sRetO 2)))
theorem sc_rim_points:FnScope ["width", "height", "found", "x", "y"] ["width", "height"] (defScope s_rim_points):=⟨rfl,rfl,rfl,by decide +kernel,rfl,by decide +kernel,by decide +kernel⟩
theorem ok_rim_points {f:Addr}{fd:FuncData} (F:Fun K "rim_points" "rim_points" s_rim_points f fd) (z_range:mg "range" = none):FnOk P w K mg base CX0 1 f fd ["width", "height"] (spN K F_rim_points) :=
 fn_d F sc_rim_points rfl rfl fun cdv A outer s H E hr =>
  (psd_cons (psd_own 2 sc_rim_points.nd (pfd_lst pad_nil))
   (psd_cons (psd_for PassesOwn.never rfl (pid_range1 (by rfl) z_range (pad_cons (pd_op od_plus (pd_var 0) pd_int) pad_nil)) (pgd_name 3 sc_rim_points.nd) (psd_one (psd_for PassesOwn.never rfl (pid_range1 (by rfl) z_range (pad_cons (pd_op od_plus (pd_var 1) pd_int) pad_nil)) (pgd_name 4 sc_rim_points.nd) (psd_one (psd_if ((pwd_or (ptd_cmp (od_in (by exact hr.units)) (pd_var 3) (pd_tup (pad_cons pd_int (pad_cons (pd_var 0) pad_nil))) (by with_unfolding_all rfl)) (pwd_or1 (ptd_cmp (od_in (by exact hr.units)) (pd_var 4) (pd_tup (pad_cons pd_int (pad_cons (pd_var 1) pad_nil))) (by with_unfolding_all rfl))))).pt (psd_one (psd_app 2 (pd_tup (pad_cons (pd_tup (pad_cons (pd_var 3) (pad_cons pd_int pad_nil))) (pad_cons (pd_tup (pad_cons (pd_var 4) (pad_cons pd_int pad_nil))) pad_nil))))) psd_nil)))))
   (psd_one (psd_retO 2))))
noncomputable def F_things_in:List D->M S:=fnD 3 1
  (sSeq (sSet 3 (eNew (fComp (iSeq (eCall F_rim_points (aCons (eVar 0) (aCons (eVar 1) aNil)))) 1 [] (gNm 0) (eTup (aCons (eVar 0) (aCons (eC (.str (Str.ofString "corner"))) (aCons (eC .non) aNil)))))))
   (sRet (eOp gPlus (eVar 3) (eNew (fComp (iEnum (aCons (eVar 2) aNil)) 2 [] (gTupD 2 (gsCons (gNm 0) (gsCons (gNm 1) gsNil))) (eTup (aCons (eVar 1) (aCons (eC (.str (Str.ofString "person"))) (aCons (eVar 0) aNil)))))))))
theorem sc_things_in:FnScope ["width", "height", "people", "corners"] ["width", "height", "people"] (defScope s_things_in):=⟨rfl,rfl,rfl,by decide +kernel,rfl,by decide +kernel,by decide +kernel⟩
theorem ok_things_in {f:Addr}{fd:FuncData} (F:Fun K "things_in" "things_in" s_things_in f fd) {f_rim_points:Addr} {fd_rim_points:FuncData} (G_rim_points:FnOk P w K mg base CX0 1 f_rim_points fd_rim_points ["width", "height"] (spN K F_rim_points)) (b_rim_points:Binds K fd_rim_points ["width", "height"] []) (k_rim_points:PySem.W.keepIn K (.ref f_rim_points)=true) (m_rim_points:mg "rim_points" = some (.ref f_rim_points)) (z_enumerate:mg "enumerate" = none):FnOk P w K mg base CX0 2 f fd ["width", "height", "people"] (spN K F_things_in) :=
 fn_d F sc_things_in rfl rfl fun cdv A outer s H E hr =>
  (psd_cons (psd_setC 3 sc_things_in.nd (Nc:=["point"]) rfl (closureFor_none (by decide +kernel)) (cap0 rfl (by decide +kernel)) rfl (by decide +kernel) (by decide +kernel) (keep_name (by decide)) (pid_seq (pd_call G_rim_points (hr.mono (by decide)) m_rim_points k_rim_points b_rim_points (pad_cons (pd_var 0) (pad_cons (pd_var 1) pad_nil)))) (fun s3 H3 C ex=>pgd_name 0 (show(["point"]:List Str).Nodup by decide +kernel)) (fun s3 H3 C ex=>(pd_tup (pad_cons (pd_var 0) (pad_cons pd_str (pad_cons pd_non pad_nil))))))
   (psd_one (psd_ret (pd_op od_plus (pd_var 3) (pd_new (pfd_comp (Nc:=["number", "point"]) rfl (closureFor_none (by decide +kernel)) (cap0 rfl (by decide +kernel)) rfl (by decide +kernel) (by decide +kernel) (keep_tup (keeps_cons (keep_name (by decide)) (keeps_cons (keep_name (by decide)) keeps_nil))) (pid_enum (by rfl) z_enumerate (pad_cons (pd_var 2) pad_nil)) (fun s3 H3 C ex=>pgd_tup rfl (pgsd_cons (pgd_name 0 (show(["number", "point"]:List Str).Nodup by decide +kernel)) (pgsd_cons (pgd_name 1 (show(["number", "point"]:List Str).Nodup by decide +kernel)) pgsd_nil))) (fun s3 H3 C ex=>(pd_tup (pad_cons (pd_var 1) (pad_cons pd_str (pad_cons (pd_var 0) pad_nil)))))))))))
noncomputable def F_step_to:List D->M S:=fnD 2 0
  (sRet (eTup (aCons (eCall F_minus (aCons (eOp gIx (eVar 1) (eC (.int 0))) (aCons (eOp gIx (eVar 0) (eC (.int 0))) aNil))) (aCons (eCall F_minus (aCons (eOp gIx (eVar 1) (eC (.int 1))) (aCons (eOp gIx (eVar 0) (eC (.int 1))) aNil))) aNil))))
theorem sc_step_to:FnScope ["begin", "end"] ["begin", "end"] (defScope s_step_to):=⟨rfl,rfl,rfl,by decide +kernel,rfl,by decide +kernel,by decide +kernel⟩
theorem ok_step_to {f:Addr}{fd:FuncData} (F:Fun K "step_to" "step_to" s_step_to f fd) {f_minus:Addr} {fd_minus:FuncData} (G_minus:FnOk P w K mg base CX0 3 f_minus fd_minus ["one", "other"] (spN K F_minus)) (b_minus:Binds K fd_minus ["one", "other"] []) (k_minus:PySem.W.keepIn K (.ref f_minus)=true) (m_minus:mg "minus" = some (.ref f_minus)):FnOk P w K mg base CX0 4 f fd ["begin", "end"] (spN K F_step_to) :=
 fn_d F sc_step_to rfl rfl fun cdv A outer s H E hr =>
  (psd_one (psd_ret (pd_tup (pad_cons (pd_call G_minus (hr.mono (by decide)) m_minus k_minus b_minus (pad_cons (pd_ix (pd_var 1) pd_int (fun _ _=>rfl)) (pad_cons (pd_ix (pd_var 0) pd_int (fun _ _=>rfl)) pad_nil))) (pad_cons (pd_call G_minus (hr.mono (by decide)) m_minus k_minus b_minus (pad_cons (pd_ix (pd_var 1) pd_int (fun _ _=>rfl)) (pad_cons (pd_ix (pd_var 0) pd_int (fun _ _=>rfl)) pad_nil))) pad_nil)))))
noncomputable def F_length:List D->M S:=fnD 1 0
  (sRet (eCall F_plus (aCons (eTup (aCons (eCB bAbs (aCons (eOp gIx (eOp gIx (eVar 0) (eC (.int 0))) (eC (.int 0))) aNil)) (aCons (eOp gIx (eOp gIx (eVar 0) (eC (.int 0))) (eC (.int 1))) aNil))) (aCons (eTup (aCons (eCB bAbs (aCons (eOp gIx (eOp gIx (eVar 0) (eC (.int 1))) (eC (.int 0))) aNil)) (aCons (eOp gIx (eOp gIx (eVar 0) (eC (.int 1))) (eC (.int 1))) aNil))) aNil))))
theorem sc_length:FnScope ["step"] ["step"] (defScope s_length):=⟨rfl,rfl,rfl,by decide +kernel,rfl,by decide +kernel,by decide +kernel⟩
theorem ok_length {f:Addr}{fd:FuncData} (F:Fun K "length" "length" s_length f fd) {f_plus:Addr} {fd_plus:FuncData} (G_plus:FnOk P w K mg base CX0 3 f_plus fd_plus ["one", "other"] (spN K F_plus)) (b_plus:Binds K fd_plus ["one", "other"] []) (k_plus:PySem.W.keepIn K (.ref f_plus)=true) (m_plus:mg "plus" = some (.ref f_plus)) (z_abs:mg "abs" = none):FnOk P w K mg base CX0 4 f fd ["step"] (spN K F_length) :=
 fn_d F sc_length rfl rfl fun cdv A outer s H E hr =>
  (psd_one (psd_ret (pd_call G_plus (hr.mono (by decide)) m_plus k_plus b_plus (pad_cons (pd_tup (pad_cons (pd_callB cd_abs (by rfl) z_abs (by rfl) (pad_cons (pd_ix (pd_ix (pd_var 0) pd_int (fun _ _=>rfl)) pd_int (fun _ _=>rfl)) pad_nil)) (pad_cons (pd_ix (pd_ix (pd_var 0) pd_int (fun _ _=>rfl)) pd_int (fun _ _=>rfl)) pad_nil))) (pad_cons (pd_tup (pad_cons (pd_callB cd_abs (by rfl) z_abs (by rfl) (pad_cons (pd_ix (pd_ix (pd_var 0) pd_int (fun _ _=>rfl)) pd_int (fun _ _=>rfl)) pad_nil)) (pad_cons (pd_ix (pd_ix (pd_var 0) pd_int (fun _ _=>rfl)) pd_int (fun _ _=>rfl)) pad_nil))) pad_nil)))))
noncomputable def F_first_things:List D->M S:=fnD 5 9
  (sSeq (sDNewT 5)
   (sSeq (sSet 6 (eCall F_things_in (aCons (eVar 0) (aCons (eVar 1) (aCons (eVar 2) aNil)))))
   (sSeq (sFor (iSeq (eCall F_cells_within (aCons (eVar 4) aNil))) (gNm 7) (sFor (iSeq (eVar 6)) (gTupD 3 (gsCons (gNm 8) (gsCons (gNm 9) (gsCons (gNm 10) gsNil)))) (sSeq (sSet 11 (eCall F_step_to (aCons (eOp gIx (eVar 2) (eVar 3)) (aCons (eCall F_image_at (aCons (eVar 0) (aCons (eVar 1) (aCons (eVar 8) (aCons (eVar 7) aNil))))) aNil))))
   (sIf (tB (eUn (gNe4 0 1 0 1) (eVar 11))) (sSeq (sSet 12 (eCall F_direction (aCons (eVar 11) aNil)))
   (sSeq (sSet 13 (eCall F_length (aCons (eVar 11) aNil)))
   (sIf (tO (tB (eDNotIn 5 (eVar 12))) (tB (eCall F_below (aCons (eVar 13) (aCons (eOp gIx (eDGet 5 (eVar 12)) (eC (.int 0))) aNil))))) (sDPut 5 (eVar 12) (eTup (aCons (eVar 13) (aCons (eVar 9) (aCons (eVar 10) aNil))))) sNil))) sNil))))
   (sRetD 5))))
theorem sc_first_things:FnScope ["width", "height", "people", "one", "most", "first", "things", "cell", "point", "word", "who", "step", "way", "far"] ["width", "height", "people", "one", "most"] (defScope s_first_things):=⟨rfl,rfl,rfl,by decide +kernel,rfl,by decide +kernel,by decide +kernel⟩
theorem ok_first_things {f:Addr}{fd:FuncData} (F:Fun K "first_things" "first_things" s_first_things f fd) {f_things_in:Addr} {fd_things_in:FuncData} (G_things_in:FnOk P w K mg base CX0 2 f_things_in fd_things_in ["width", "height", "people"] (spN K F_things_in)) (b_things_in:Binds K fd_things_in ["width", "height", "people"] []) (k_things_in:PySem.W.keepIn K (.ref f_things_in)=true) (m_things_in:mg "things_in" = some (.ref f_things_in)) {f_cells_within:Addr} {fd_cells_within:FuncData} (G_cells_within:FnOk P w K mg base CX0 1 f_cells_within fd_cells_within ["most"] (spN K F_cells_within)) (b_cells_within:Binds K fd_cells_within ["most"] []) (k_cells_within:PySem.W.keepIn K (.ref f_cells_within)=true) (m_cells_within:mg "cells_within" = some (.ref f_cells_within)) {f_step_to:Addr} {fd_step_to:FuncData} (G_step_to:FnOk P w K mg base CX0 4 f_step_to fd_step_to ["begin", "end"] (spN K F_step_to)) (b_step_to:Binds K fd_step_to ["begin", "end"] []) (k_step_to:PySem.W.keepIn K (.ref f_step_to)=true) (m_step_to:mg "step_to" = some (.ref f_step_to)) {f_image_at:Addr} {fd_image_at:FuncData} (G_image_at:FnOk P w K mg base CX0 5 f_image_at fd_image_at ["width", "height", "point", "cell"] (spN K F_image_at)) (b_image_at:Binds K fd_image_at ["width", "height", "point", "cell"] []) (k_image_at:PySem.W.keepIn K (.ref f_image_at)=true) (m_image_at:mg "image_at" = some (.ref f_image_at)) {f_direction:Addr} {fd_direction:FuncData} (G_direction:FnOk P w K mg base CX0 2 f_direction fd_direction ["step"] (spN K F_direction)) (b_direction:Binds K fd_direction ["step"] []) (k_direction:PySem.W.keepIn K (.ref f_direction)=true) (m_direction:mg "direction" = some (.ref f_direction)) {f_length:Addr} {fd_length:FuncData} (G_length:FnOk P w K mg base CX0 4 f_length fd_length ["step"] (spN K F_length)) (b_length:Binds K fd_length ["step"] []) (k_length:PySem.W.keepIn K (.ref f_length)=true) (m_length:mg "length" = some (.ref f_length)) {f_below:Addr} {fd_below:FuncData} (G_below:FnOk P w K mg base CX0 1 f_below fd_below ["one", "other"] (spN K F_below)) (b_below:Binds K fd_below ["one", "other"] []) (k_below:PySem.W.keepIn K (.ref f_below)=true) (m_below:mg "below" = some (.ref f_below)) {at_NO_STEP:Addr} (mt_NO_STEP:mg "NO_STEP" = some (.ref at_NO_STEP)) (tb_NO_STEP:fourB K at_NO_STEP 0 1 0 1=true):FnOk P w K mg base CX0 6 f fd ["width", "height", "people", "one", "most"] (spN K F_first_things) :=
 fn_d F sc_first_things rfl rfl fun cdv A outer s H E hr =>
  (psd_cons (psd_dnewT 5 sc_first_things.nd)
   (psd_cons (psd_set 6 sc_first_things.nd (pd_call G_things_in (hr.mono (by decide)) m_things_in k_things_in b_things_in (pad_cons (pd_var 0) (pad_cons (pd_var 1) (pad_cons (pd_var 2) pad_nil)))))
   (psd_cons (psd_for PassesOwn.never rfl (pid_seq (pd_call G_cells_within (hr.mono (by decide)) m_cells_within k_cells_within b_cells_within (pad_cons (pd_var 4) pad_nil))) (pgd_name 7 sc_first_things.nd) (psd_one (psd_for PassesOwn.never rfl (pid_seq (pd_var 6)) (pgd_tup rfl (pgsd_cons (pgd_name 8 sc_first_things.nd) (pgsd_cons (pgd_name 9 sc_first_things.nd) (pgsd_cons (pgd_name 10 sc_first_things.nd) pgsd_nil)))) (psd_cons (psd_set 11 sc_first_things.nd (pd_call G_step_to (hr.mono (by decide)) m_step_to k_step_to b_step_to (pad_cons (pd_ix (pd_var 2) (pd_var 3) (fun _ _=>rfl)) (pad_cons (pd_call G_image_at (hr.mono (by decide)) m_image_at k_image_at b_image_at (pad_cons (pd_var 0) (pad_cons (pd_var 1) (pad_cons (pd_var 8) (pad_cons (pd_var 7) pad_nil))))) pad_nil))))
   (psd_one (psd_if (ptd_ne4 hr.units mt_NO_STEP tb_NO_STEP (pd_var 11)) (psd_cons (psd_set 12 sc_first_things.nd (pd_call G_direction (hr.mono (by decide)) m_direction k_direction b_direction (pad_cons (pd_var 11) pad_nil)))
   (psd_cons (psd_set 13 sc_first_things.nd (pd_call G_length (hr.mono (by decide)) m_length k_length b_length (pad_cons (pd_var 11) pad_nil)))
   (psd_one (psd_if ((pwd_or (ptd_dnotin 5 hr.units (pd_var 12)) (pwd_or1 (ptd_val (pd_call G_below (hr.mono (by decide)) m_below k_below b_below (pad_cons (pd_var 13) (pad_cons (pd_ix (pd_dget 5 hr.units (pd_var 12) (fun _ _=>rfl)) pd_int (fun _ _=>rfl)) pad_nil))))))).pt (psd_one (psd_dput 5 hr.units (pd_var 12) (pd_tup (pad_cons (pd_var 13) (pad_cons (pd_var 9) (pad_cons (pd_var 10) pad_nil)))))) psd_nil)))) psd_nil))))))
   (psd_one (psd_retD 5)))))
noncomputable def F_cells:List D->M S:=fnD 6 5
  (sSeq (sSetD 6 F_first_things (aCons (eVar 0) (aCons (eVar 1) (aCons (eVar 2) (aCons (eVar 3) (aCons (eVar 5) aNil))))))
   (sSeq (sOwn 7 (fLst aNil))
   (sSeq (sFor (iSeq (eCall F_cells_within (aCons (eVar 5) aNil))) (gNm 8) (sSeq (sSet 9 (eCall F_step_to (aCons (eOp gIx (eVar 2) (eVar 3)) (aCons (eCall F_image_at (aCons (eVar 0) (aCons (eVar 1) (aCons (eOp gIx (eVar 2) (eVar 4)) (aCons (eVar 8) aNil))))) aNil))))
   (sIf (tB (eUn (gNe4 0 1 0 1) (eVar 9))) (sSeq (sSet 10 (eDGet 6 (eCall F_direction (aCons (eVar 9) aNil))))
   (sIf (tB (eOp gEq (eOp gIx (eVar 10) (eC (.int 0))) (eCall F_length (aCons (eVar 9) aNil)))) (sApp 7 (eTup (aCons (eOp gIx (eVar 8) (eC (.int 0))) (aCons (eOp gIx (eVar 8) (eC (.int 1))) (aCons (eC (.str (Str.ofString "seen"))) (aCons (eVar 4) aNil)))))) (sApp 7 (eTup (aCons (eOp gIx (eVar 8) (eC (.int 0))) (aCons (eOp gIx (eVar 8) (eC (.int 1))) (aCons (eOp gIx (eVar 10) (eC (.int 1))) (aCons (eOp gIx (eVar 10) (eC (.int 2))) aNil)))))))) sNil)))
   (sRetO 7))))
theorem sc_cells:FnScope ["width", "height", "people", "one", "other", "most", "first", "told", "cell", "step", "met"] ["width", "height", "people", "one", "other", "most"] (defScope s_cells):=⟨rfl,rfl,rfl,by decide +kernel,rfl,by decide +kernel,by decide +kernel⟩
theorem ok_cells {f:Addr}{fd:FuncData} (F:Fun K "cells" "cells" s_cells f fd) {f_first_things:Addr} {fd_first_things:FuncData} (G_first_things:FnOk P w K mg base CX0 6 f_first_things fd_first_things ["width", "height", "people", "one", "most"] (spN K F_first_things)) (b_first_things:Binds K fd_first_things ["width", "height", "people", "one", "most"] []) (k_first_things:PySem.W.keepIn K (.ref f_first_things)=true) (m_first_things:mg "first_things" = some (.ref f_first_things)) {f_cells_within:Addr} {fd_cells_within:FuncData} (G_cells_within:FnOk P w K mg base CX0 1 f_cells_within fd_cells_within ["most"] (spN K F_cells_within)) (b_cells_within:Binds K fd_cells_within ["most"] []) (k_cells_within:PySem.W.keepIn K (.ref f_cells_within)=true) (m_cells_within:mg "cells_within" = some (.ref f_cells_within)) {f_step_to:Addr} {fd_step_to:FuncData} (G_step_to:FnOk P w K mg base CX0 4 f_step_to fd_step_to ["begin", "end"] (spN K F_step_to)) (b_step_to:Binds K fd_step_to ["begin", "end"] []) (k_step_to:PySem.W.keepIn K (.ref f_step_to)=true) (m_step_to:mg "step_to" = some (.ref f_step_to)) {f_image_at:Addr} {fd_image_at:FuncData} (G_image_at:FnOk P w K mg base CX0 5 f_image_at fd_image_at ["width", "height", "point", "cell"] (spN K F_image_at)) (b_image_at:Binds K fd_image_at ["width", "height", "point", "cell"] []) (k_image_at:PySem.W.keepIn K (.ref f_image_at)=true) (m_image_at:mg "image_at" = some (.ref f_image_at)) {f_direction:Addr} {fd_direction:FuncData} (G_direction:FnOk P w K mg base CX0 2 f_direction fd_direction ["step"] (spN K F_direction)) (b_direction:Binds K fd_direction ["step"] []) (k_direction:PySem.W.keepIn K (.ref f_direction)=true) (m_direction:mg "direction" = some (.ref f_direction)) {f_length:Addr} {fd_length:FuncData} (G_length:FnOk P w K mg base CX0 4 f_length fd_length ["step"] (spN K F_length)) (b_length:Binds K fd_length ["step"] []) (k_length:PySem.W.keepIn K (.ref f_length)=true) (m_length:mg "length" = some (.ref f_length)) {at_NO_STEP:Addr} (mt_NO_STEP:mg "NO_STEP" = some (.ref at_NO_STEP)) (tb_NO_STEP:fourB K at_NO_STEP 0 1 0 1=true):FnOk P w K mg base CX0 7 f fd ["width", "height", "people", "one", "other", "most"] (spN K F_cells) :=
 fn_d F sc_cells rfl rfl fun cdv A outer s H E hr =>
  (psd_cons (psd_setD 6 sc_cells.nd G_first_things (hr.mono (by decide)) m_first_things k_first_things b_first_things (pad_cons (pd_var 0) (pad_cons (pd_var 1) (pad_cons (pd_var 2) (pad_cons (pd_var 3) (pad_cons (pd_var 5) pad_nil))))))
   (psd_cons (psd_own 7 sc_cells.nd (pfd_lst pad_nil))
   (psd_cons (psd_for PassesOwn.never rfl (pid_seq (pd_call G_cells_within (hr.mono (by decide)) m_cells_within k_cells_within b_cells_within (pad_cons (pd_var 5) pad_nil))) (pgd_name 8 sc_cells.nd) (psd_cons (psd_set 9 sc_cells.nd (pd_call G_step_to (hr.mono (by decide)) m_step_to k_step_to b_step_to (pad_cons (pd_ix (pd_var 2) (pd_var 3) (fun _ _=>rfl)) (pad_cons (pd_call G_image_at (hr.mono (by decide)) m_image_at k_image_at b_image_at (pad_cons (pd_var 0) (pad_cons (pd_var 1) (pad_cons (pd_ix (pd_var 2) (pd_var 4) (fun _ _=>rfl)) (pad_cons (pd_var 8) pad_nil))))) pad_nil))))
   (psd_one (psd_if (ptd_ne4 hr.units mt_NO_STEP tb_NO_STEP (pd_var 9)) (psd_cons (psd_set 10 sc_cells.nd (pd_dget 6 hr.units (pd_call G_direction (hr.mono (by decide)) m_direction k_direction b_direction (pad_cons (pd_var 9) pad_nil)) (fun _ _=>rfl)))
   (psd_one (psd_if (ptd_cmp (od_eq hr.units) (pd_ix (pd_var 10) pd_int (fun _ _=>rfl)) (pd_call G_length (hr.mono (by decide)) m_length k_length b_length (pad_cons (pd_var 9) pad_nil)) (nomark _)) (psd_one (psd_app 7 (pd_tup (pad_cons (pd_ix (pd_var 8) pd_int (fun _ _=>rfl)) (pad_cons (pd_ix (pd_var 8) pd_int (fun _ _=>rfl)) (pad_cons pd_str (pad_cons (pd_var 4) pad_nil))))))) (psd_one (psd_app 7 (pd_tup (pad_cons (pd_ix (pd_var 8) pd_int (fun _ _=>rfl)) (pad_cons (pd_ix (pd_var 8) pd_int (fun _ _=>rfl)) (pad_cons (pd_ix (pd_var 10) pd_int (fun _ _=>rfl)) (pad_cons (pd_ix (pd_var 10) pd_int (fun _ _=>rfl)) pad_nil)))))))))) psd_nil))))
   (psd_one (psd_retO 7)))))
noncomputable def F_how_many:List D->M S:=fnD 6 0
  (sRet (eCB bLen (aCons (eNew (fCompIf (iSeq (eCall F_cells (aCons (eVar 0) (aCons (eVar 1) (aCons (eVar 2) (aCons (eVar 3) (aCons (eVar 4) (aCons (eVar 5) aNil)))))))) 1 [] (gNm 0) (tB (eOp gEq (eOp gIx (eVar 0) (eC (.int 2))) (eC (.str (Str.ofString "seen"))))) (eVar 0))) aNil)))
theorem sc_how_many:FnScope ["width", "height", "people", "one", "other", "most"] ["width", "height", "people", "one", "other", "most"] (defScope s_how_many):=⟨rfl,rfl,rfl,by decide +kernel,rfl,by decide +kernel,by decide +kernel⟩
theorem ok_how_many {f:Addr}{fd:FuncData} (F:Fun K "how_many" "how_many" s_how_many f fd) {f_cells:Addr} {fd_cells:FuncData} (G_cells:FnOk P w K mg base CX0 7 f_cells fd_cells ["width", "height", "people", "one", "other", "most"] (spN K F_cells)) (b_cells:Binds K fd_cells ["width", "height", "people", "one", "other", "most"] []) (k_cells:PySem.W.keepIn K (.ref f_cells)=true) (m_cells:mg "cells" = some (.ref f_cells)) (z_len:mg "len" = none):FnOk P w K mg base CX0 8 f fd ["width", "height", "people", "one", "other", "most"] (spN K F_how_many) :=
 fn_d F sc_how_many rfl rfl fun cdv A outer s H E hr =>
  (psd_one (psd_ret (pd_callB cd_len (by rfl) z_len (by rfl) (pad_cons (pd_new (pfd_compIf (Nc:=["told"]) rfl (closureFor_none (by decide +kernel)) (cap0 rfl (by decide +kernel)) rfl (by decide +kernel) (by decide +kernel) (keep_name (by decide)) (pid_seq (pd_call G_cells (hr.mono (by decide)) m_cells k_cells b_cells (pad_cons (pd_var 0) (pad_cons (pd_var 1) (pad_cons (pd_var 2) (pad_cons (pd_var 3) (pad_cons (pd_var 4) (pad_cons (pd_var 5) pad_nil)))))))) (fun s3 H3 C ex=>pgd_name 0 (show(["told"]:List Str).Nodup by decide +kernel)) (fun s3 H3 C ex=>(ptd_cmp (od_eq hr.units) (pd_ix (pd_var 0) pd_int (fun _ _=>rfl)) pd_str (nomark _))) (fun s3 H3 C ex=>(pd_var 0)))) pad_nil))))
noncomputable def F_l_cell:List D->M S:=fnD 2 0
  (sRet (eOp gIx (eOp gPlus (eSl (eVar 0) (oSome (eVar 1)) (oSome (eOp gPlus (eVar 1) (eC (.int 1))))) (eLst (aCons (eC (.int 0)) aNil))) (eC (.int 0))))
theorem sc_l_cell:FnScope ["_law_script", "_law_k"] ["_law_script", "_law_k"] (defScope s_l_cell):=⟨rfl,rfl,rfl,by decide +kernel,rfl,by decide +kernel,by decide +kernel⟩
theorem ok_l_cell {f:Addr}{fd:FuncData} (F:Fun K "_law_cell" "_law_cell" s_l_cell f fd)  : FnOk P w K mg base CX0 1 f fd ["_law_script", "_law_k"] (spN K F_l_cell) :=
 fn_d F sc_l_cell rfl rfl fun cdv A outer s H E hr =>
  (psd_one (psd_ret (pd_ix (pd_op od_plus (pd_slice (pd_var 0) (pod_some (pd_var 1)) (pod_some (pd_op od_plus (pd_var 1) pd_int))) (pd_lst (pad_cons pd_int pad_nil))) pd_int (fun _ _=>rfl))))
noncomputable def F_l_numbers:List D->M S:=fnD 2 4
  (sSeq (sOwn 2 (fLst aNil))
   (sSeq (sSet 3 (eOp gMod (eOp gTimes (eOp gPlus (eOp gMod (eVar 0) (eC (.int 1999999973))) (eC (.int 31))) (eC (.int 765432101))) (eC (.int 1999999973))))
   (sSeq (sSet 4 (eC (.int 0)))
   (sSeq (sIf (tO (tB (eOp gLt (eVar 0) (eC (.int 0)))) (tB (eOp gGe (eVar 0) (eOp gPow (eC (.int 10)) (eC (.int 18)))))) (sSet 4 (eCB bAbs (aCons (eVar 0) aNil))) sNil)
   (sSeq (sFor (iRange1 (aCons (eVar 1) aNil)) (gNm 5) (sSeq (sSet 3 (eOp gMod (eOp gPlus (eOp gPlus (eOp gTimes (eVar 3) (eOp gPlus (eOp gMod (eVar 3) (eC (.int 65521))) (eC (.int 40487)))) (eOp gTimes (eC (.int 7)) (eVar 5))) (eC (.int 5))) (eC (.int 1999999973))))
   (sSeq (sApp 2 (eOp gIx (eLst (aCons (eVar 3) (aCons (eOp gMod (eVar 4) (eC (.int 1000000))) aNil))) (eCB bInt (aCons (eOp gGt (eVar 4) (eC (.int 0))) aNil))))
   (sSet 4 (eOp gFdiv (eVar 4) (eC (.int 1000000)))))))
   (sRetO 2))))))
theorem sc_l_numbers:FnScope ["_law_cell_here", "_law_many", "_law_found", "_law_number", "_law_digits", "_law_k"] ["_law_cell_here", "_law_many"] (defScope s_l_numbers):=⟨rfl,rfl,rfl,by decide +kernel,rfl,by decide +kernel,by decide +kernel⟩
theorem ok_l_numbers {f:Addr}{fd:FuncData} (F:Fun K "_law_numbers" "_law_numbers" s_l_numbers f fd) (z_abs:mg "abs" = none) (z_range:mg "range" = none) (z_int:mg "int" = none):FnOk P w K mg base CX0 1 f fd ["_law_cell_here", "_law_many"] (spN K F_l_numbers) :=
 fn_d F sc_l_numbers rfl rfl fun cdv A outer s H E hr =>
  (psd_cons (psd_own 2 sc_l_numbers.nd (pfd_lst pad_nil))
   (psd_cons (psd_set 3 sc_l_numbers.nd (pd_op od_mod (pd_op od_times (pd_op od_plus (pd_op od_mod (pd_var 0) pd_int) pd_int) pd_int) pd_int))
   (psd_cons (psd_set 4 sc_l_numbers.nd pd_int)
   (psd_cons (psd_if ((pwd_or (ptd_cmp od_lt (pd_var 0) pd_int (nomark _)) (pwd_or1 (ptd_cmp od_ge (pd_var 0) (pd_op od_pow pd_int pd_int) (nomark _))))).pt (psd_one (psd_set 4 sc_l_numbers.nd (pd_callB cd_abs (by rfl) z_abs (by rfl) (pad_cons (pd_var 0) pad_nil)))) psd_nil)
   (psd_cons (psd_for PassesOwn.never rfl (pid_range1 (by rfl) z_range (pad_cons (pd_var 1) pad_nil)) (pgd_name 5 sc_l_numbers.nd) (psd_cons (psd_set 3 sc_l_numbers.nd (pd_op od_mod (pd_op od_plus (pd_op od_plus (pd_op od_times (pd_var 3) (pd_op od_plus (pd_op od_mod (pd_var 3) pd_int) pd_int)) (pd_op od_times pd_int (pd_var 5))) pd_int) pd_int))
   (psd_cons (psd_app 2 (pd_ix (pd_lst (pad_cons (pd_var 3) (pad_cons (pd_op od_mod (pd_var 4) pd_int) pad_nil))) (pd_callT cd_int (by rfl) z_int (by rfl) (pad_cons (pd_cmp od_gt (pd_var 4) pd_int (nomark _)) pad_nil)) (fun _ _=>rfl)))
   (psd_one (psd_set 4 sc_l_numbers.nd (pd_op od_fdiv (pd_var 4) pd_int))))))
   (psd_one (psd_retO 2)))))))
noncomputable def F_l_lowest:List D->M S:=fnD 2 2
  (sSeq (sPar 2 3 (aCons (eCB bAbs (aCons (eVar 0) aNil)) (aCons (eVar 1) aNil)))
   (sSeq (sWhile (tB (eOp gGt (eVar 3) (eC (.int 0)))) (sPar 2 3 (aCons (eVar 3) (aCons (eOp gMod (eVar 2) (eVar 3)) aNil))))
   (sRet (eTup (aCons (eOp gFdiv (eVar 0) (eVar 2)) (aCons (eOp gFdiv (eVar 1) (eVar 2)) aNil))))))
theorem sc_l_lowest:FnScope ["_law_top", "_law_bottom", "_law_high", "_law_low"] ["_law_top", "_law_bottom"] (defScope s_l_lowest):=⟨rfl,rfl,rfl,by decide +kernel,rfl,by decide +kernel,by decide +kernel⟩
theorem ok_l_lowest {f:Addr}{fd:FuncData} (F:Fun K "_law_lowest" "_law_lowest" s_l_lowest f fd) (z_abs:mg "abs" = none):FnOk P w K mg base CX0 1 f fd ["_law_top", "_law_bottom"] (spN K F_l_lowest) :=
 fn_d F sc_l_lowest rfl rfl fun cdv A outer s H E hr =>
  (psd_cons (psd_par 2 3 rfl sc_l_lowest.nd (pad_cons (pd_callB cd_abs (by rfl) z_abs (by rfl) (pad_cons (pd_var 0) pad_nil)) (pad_cons (pd_var 1) pad_nil)) (by rfl))
   (psd_cons (psd_while PassesOwn.never (ptd_cmp od_gt (pd_var 3) pd_int (nomark _)) (psd_one (psd_par 2 3 rfl sc_l_lowest.nd (pad_cons (pd_var 3) (pad_cons (pd_op od_mod (pd_var 2) (pd_var 3)) pad_nil)) (by rfl))))
   (psd_one (psd_ret (pd_tup (pad_cons (pd_op od_fdiv (pd_var 0) (pd_var 2)) (pad_cons (pd_op od_fdiv (pd_var 1) (pd_var 2)) pad_nil)))))))
noncomputable def F_l_part:List D->M S:=fnD 4 1
  (sSeq (sSet 4 (eOp gPlus (eC (.int 2)) (eOp gMod (eVar 1) (eOp gSub (eVar 3) (eC (.int 1))))))
   (sRet (eCall F_l_lowest (aCons (eOp gPlus (eOp gPlus (eOp gTimes (eOp gMod (eOp gFdiv (eVar 1) (eC (.int 1000))) (eVar 0)) (eVar 4)) (eC (.int 1))) (eOp gMod (eVar 2) (eOp gSub (eVar 4) (eC (.int 1))))) (aCons (eVar 4) aNil)))))
theorem sc_l_part:FnScope ["_law_size", "_law_one", "_law_other", "_law_most", "_law_bottom"] ["_law_size", "_law_one", "_law_other", "_law_most"] (defScope s_l_part):=⟨rfl,rfl,rfl,by decide +kernel,rfl,by decide +kernel,by decide +kernel⟩
theorem ok_l_part {f:Addr}{fd:FuncData} (F:Fun K "_law_part" "_law_part" s_l_part f fd) {f_l_lowest:Addr} {fd_l_lowest:FuncData} (G_l_lowest:FnOk P w K mg base CX0 1 f_l_lowest fd_l_lowest ["_law_top", "_law_bottom"] (spN K F_l_lowest)) (b_l_lowest:Binds K fd_l_lowest ["_law_top", "_law_bottom"] []) (k_l_lowest:PySem.W.keepIn K (.ref f_l_lowest)=true) (m_l_lowest:mg "_law_lowest" = some (.ref f_l_lowest)):FnOk P w K mg base CX0 2 f fd ["_law_size", "_law_one", "_law_other", "_law_most"] (spN K F_l_part) :=
 fn_d F sc_l_part rfl rfl fun cdv A outer s H E hr =>
  (psd_cons (psd_set 4 sc_l_part.nd (pd_op od_plus pd_int (pd_op od_mod (pd_var 1) (pd_op od_sub (pd_var 3) pd_int))))
   (psd_one (psd_ret (pd_call G_l_lowest (hr.mono (by decide)) m_l_lowest k_l_lowest b_l_lowest (pad_cons (pd_op od_plus (pd_op od_plus (pd_op od_times (pd_op od_mod (pd_op od_fdiv (pd_var 1) pd_int) (pd_var 0)) (pd_var 4)) pd_int) (pd_op od_mod (pd_var 2) (pd_op od_sub (pd_var 4) pd_int))) (pad_cons (pd_var 4) pad_nil))))))
noncomputable def F_l_point:List D->M S:=fnD 4 1
  (sSeq (sSet 4 (eCall F_l_numbers (aCons (eVar 0) (aCons (eC (.int 4)) aNil))))
   (sRet (eTup (aCons (eCall F_l_part (aCons (eVar 1) (aCons (eOp gIx (eVar 4) (eC (.int 0))) (aCons (eOp gIx (eVar 4) (eC (.int 1))) (aCons (eVar 3) aNil))))) (aCons (eCall F_l_part (aCons (eVar 2) (aCons (eOp gIx (eVar 4) (eC (.int 2))) (aCons (eOp gIx (eVar 4) (eC (.int 3))) (aCons (eVar 3) aNil))))) aNil)))))
theorem sc_l_point:FnScope ["_law_cell_here", "_law_width", "_law_height", "_law_most", "_law_xs"] ["_law_cell_here", "_law_width", "_law_height", "_law_most"] (defScope s_l_point):=⟨rfl,rfl,rfl,by decide +kernel,rfl,by decide +kernel,by decide +kernel⟩
theorem ok_l_point {f:Addr}{fd:FuncData} (F:Fun K "_law_point" "_law_point" s_l_point f fd) {f_l_numbers:Addr} {fd_l_numbers:FuncData} (G_l_numbers:FnOk P w K mg base CX0 1 f_l_numbers fd_l_numbers ["_law_cell_here", "_law_many"] (spN K F_l_numbers)) (b_l_numbers:Binds K fd_l_numbers ["_law_cell_here", "_law_many"] []) (k_l_numbers:PySem.W.keepIn K (.ref f_l_numbers)=true) (m_l_numbers:mg "_law_numbers" = some (.ref f_l_numbers)) {f_l_part:Addr} {fd_l_part:FuncData} (G_l_part:FnOk P w K mg base CX0 2 f_l_part fd_l_part ["_law_size", "_law_one", "_law_other", "_law_most"] (spN K F_l_part)) (b_l_part:Binds K fd_l_part ["_law_size", "_law_one", "_law_other", "_law_most"] []) (k_l_part:PySem.W.keepIn K (.ref f_l_part)=true) (m_l_part:mg "_law_part" = some (.ref f_l_part)):FnOk P w K mg base CX0 3 f fd ["_law_cell_here", "_law_width", "_law_height", "_law_most"] (spN K F_l_point) :=
 fn_d F sc_l_point rfl rfl fun cdv A outer s H E hr =>
  (psd_cons (psd_set 4 sc_l_point.nd (pd_call G_l_numbers (hr.mono (by decide)) m_l_numbers k_l_numbers b_l_numbers (pad_cons (pd_var 0) (pad_cons pd_int pad_nil))))
   (psd_one (psd_ret (pd_tup (pad_cons (pd_call G_l_part (hr.mono (by decide)) m_l_part k_l_part b_l_part (pad_cons (pd_var 1) (pad_cons (pd_ix (pd_var 4) pd_int (fun _ _=>rfl)) (pad_cons (pd_ix (pd_var 4) pd_int (fun _ _=>rfl)) (pad_cons (pd_var 3) pad_nil))))) (pad_cons (pd_call G_l_part (hr.mono (by decide)) m_l_part k_l_part b_l_part (pad_cons (pd_var 2) (pad_cons (pd_ix (pd_var 4) pd_int (fun _ _=>rfl)) (pad_cons (pd_ix (pd_var 4) pd_int (fun _ _=>rfl)) (pad_cons (pd_var 3) pad_nil))))) pad_nil))))))
noncomputable def F_l_people:List D->M S:=fnD 4 3
  (sSeq (sOwn 4 (fLst aNil))
   (sSeq (sFor (iSeq (eVar 0)) (gNm 5) (sSeq (sSet 6 (eCall F_l_point (aCons (eVar 5) (aCons (eVar 1) (aCons (eVar 2) (aCons (eVar 3) aNil))))))
   (sIf (tView 4 (tB (eOp gNotIn (eVar 6) (eVar 4)))) (sApp 4 (eVar 6)) sNil)))
   (sRetO 4)))
theorem sc_l_people:FnScope ["_law_some", "_law_width", "_law_height", "_law_most", "_law_found", "_law_cell_here", "_law_point_here"] ["_law_some", "_law_width", "_law_height", "_law_most"] (defScope s_l_people):=⟨rfl,rfl,rfl,by decide +kernel,rfl,by decide +kernel,by decide +kernel⟩
theorem ok_l_people {f:Addr}{fd:FuncData} (F:Fun K "_law_people" "_law_people" s_l_people f fd) {f_l_point:Addr} {fd_l_point:FuncData} (G_l_point:FnOk P w K mg base CX0 3 f_l_point fd_l_point ["_law_cell_here", "_law_width", "_law_height", "_law_most"] (spN K F_l_point)) (b_l_point:Binds K fd_l_point ["_law_cell_here", "_law_width", "_law_height", "_law_most"] []) (k_l_point:PySem.W.keepIn K (.ref f_l_point)=true) (m_l_point:mg "_law_point" = some (.ref f_l_point)):FnOk P w K mg base CX0 4 f fd ["_law_some", "_law_width", "_law_height", "_law_most"] (spN K F_l_people) :=
 fn_d F sc_l_people rfl rfl fun cdv A outer s H E hr =>
  (psd_cons (psd_own 4 sc_l_people.nd (pfd_lst pad_nil))
   (psd_cons (psd_for PassesOwn.never rfl (pid_seq (pd_var 0)) (pgd_name 5 sc_l_people.nd) (psd_cons (psd_set 6 sc_l_people.nd (pd_call G_l_point (hr.mono (by decide)) m_l_point k_l_point b_l_point (pad_cons (pd_var 5) (pad_cons (pd_var 1) (pad_cons (pd_var 2) (pad_cons (pd_var 3) pad_nil))))))
   (psd_one (psd_if (ptd_view 4 (ptd_cmp (od_notin (by exact hr.units)) (pd_var 6) (pd_var 4) (by with_unfolding_all rfl))) (psd_one (psd_app 4 (pd_var 6))) psd_nil))))
   (psd_one (psd_retO 4))))
noncomputable def F_l_drawn:List D->M S:=fnD 1 7
  (sSeq (sSet 1 (eOp gIx (eCall F_l_numbers (aCons (eCall F_l_cell (aCons (eVar 0) (aCons (eC (.int 0)) aNil))) (aCons (eC (.int 1)) aNil))) (eC (.int 0))))
   (sSeq (sSet 2 (eOp gPlus (eC (.int 1)) (eOp gMod (eVar 1) (eC (.int 4)))))
   (sSeq (sSet 3 (eOp gPlus (eC (.int 1)) (eOp gMod (eOp gFdiv (eVar 1) (eC (.int 4))) (eC (.int 4)))))
   (sSeq (sSet 4 (eOp gIx (eLst (aCons (eC (.int 9)) (aCons (eC (.int 3)) (aCons (eC (.int 9)) (aCons (eC (.int 1000)) aNil))))) (eOp gMod (eOp gFdiv (eVar 1) (eC (.int 16))) (eC (.int 4)))))
   (sSeq (sSet 5 (eCall F_l_people (aCons (eOp gPlus (eLst (aCons (eCall F_l_cell (aCons (eVar 0) (aCons (eC (.int 2)) aNil))) aNil)) (eSl (eVar 0) (oSome (eC (.int 3))) (oSome (eOp gPlus (eC (.int 3)) (eOp gMod (eOp gFdiv (eVar 1) (eC (.int 64))) (eC (.int 6))))))) (aCons (eVar 2) (aCons (eVar 3) (aCons (eVar 4) aNil))))))
   (sSeq (sSet 6 (eOp gMod (eOp gFdiv (eVar 1) (eC (.int 384))) (eCB bLen (aCons (eVar 5) aNil))))
   (sSeq (sSet 7 (eOp gMod (eOp gFdiv (eVar 1) (eC (.int 2304))) (eCB bLen (aCons (eVar 5) aNil))))
   (sRet (eTup (aCons (eVar 2) (aCons (eVar 3) (aCons (eVar 5) (aCons (eVar 6) (aCons (eVar 7) aNil))))))))))))))
theorem sc_l_drawn:FnScope ["_law_script", "_law_first", "_law_width", "_law_height", "_law_bottom", "_law_people_here", "_law_one", "_law_other"] ["_law_script"] (defScope s_l_drawn):=⟨rfl,rfl,rfl,by decide +kernel,rfl,by decide +kernel,by decide +kernel⟩
theorem ok_l_drawn {f:Addr}{fd:FuncData} (F:Fun K "_law_drawn" "_law_drawn" s_l_drawn f fd) {f_l_numbers:Addr} {fd_l_numbers:FuncData} (G_l_numbers:FnOk P w K mg base CX0 1 f_l_numbers fd_l_numbers ["_law_cell_here", "_law_many"] (spN K F_l_numbers)) (b_l_numbers:Binds K fd_l_numbers ["_law_cell_here", "_law_many"] []) (k_l_numbers:PySem.W.keepIn K (.ref f_l_numbers)=true) (m_l_numbers:mg "_law_numbers" = some (.ref f_l_numbers)) {f_l_cell:Addr} {fd_l_cell:FuncData} (G_l_cell:FnOk P w K mg base CX0 1 f_l_cell fd_l_cell ["_law_script", "_law_k"] (spN K F_l_cell)) (b_l_cell:Binds K fd_l_cell ["_law_script", "_law_k"] []) (k_l_cell:PySem.W.keepIn K (.ref f_l_cell)=true) (m_l_cell:mg "_law_cell" = some (.ref f_l_cell)) {f_l_people:Addr} {fd_l_people:FuncData} (G_l_people:FnOk P w K mg base CX0 4 f_l_people fd_l_people ["_law_some", "_law_width", "_law_height", "_law_most"] (spN K F_l_people)) (b_l_people:Binds K fd_l_people ["_law_some", "_law_width", "_law_height", "_law_most"] []) (k_l_people:PySem.W.keepIn K (.ref f_l_people)=true) (m_l_people:mg "_law_people" = some (.ref f_l_people)) (z_len:mg "len" = none):FnOk P w K mg base CX0 5 f fd ["_law_script"] (spN K F_l_drawn) :=
 fn_d F sc_l_drawn rfl rfl fun cdv A outer s H E hr =>
  (psd_cons (psd_set 1 sc_l_drawn.nd (pd_ix (pd_call G_l_numbers (hr.mono (by decide)) m_l_numbers k_l_numbers b_l_numbers (pad_cons (pd_call G_l_cell (hr.mono (by decide)) m_l_cell k_l_cell b_l_cell (pad_cons (pd_var 0) (pad_cons pd_int pad_nil))) (pad_cons pd_int pad_nil))) pd_int (fun _ _=>rfl)))
   (psd_cons (psd_set 2 sc_l_drawn.nd (pd_op od_plus pd_int (pd_op od_mod (pd_var 1) pd_int)))
   (psd_cons (psd_set 3 sc_l_drawn.nd (pd_op od_plus pd_int (pd_op od_mod (pd_op od_fdiv (pd_var 1) pd_int) pd_int)))
   (psd_cons (psd_set 4 sc_l_drawn.nd (pd_ix (pd_lst (pad_cons pd_int (pad_cons pd_int (pad_cons pd_int (pad_cons pd_int pad_nil))))) (pd_op od_mod (pd_op od_fdiv (pd_var 1) pd_int) pd_int) (fun _ _=>rfl)))
   (psd_cons (psd_set 5 sc_l_drawn.nd (pd_call G_l_people (hr.mono (by decide)) m_l_people k_l_people b_l_people (pad_cons (pd_op od_plus (pd_lst (pad_cons (pd_call G_l_cell (hr.mono (by decide)) m_l_cell k_l_cell b_l_cell (pad_cons (pd_var 0) (pad_cons pd_int pad_nil))) pad_nil)) (pd_slice (pd_var 0) (pod_some pd_int) (pod_some (pd_op od_plus pd_int (pd_op od_mod (pd_op od_fdiv (pd_var 1) pd_int) pd_int))))) (pad_cons (pd_var 2) (pad_cons (pd_var 3) (pad_cons (pd_var 4) pad_nil))))))
   (psd_cons (psd_set 6 sc_l_drawn.nd (pd_op od_mod (pd_op od_fdiv (pd_var 1) pd_int) (pd_callB cd_len (by rfl) z_len (by rfl) (pad_cons (pd_var 5) pad_nil))))
   (psd_cons (psd_set 7 sc_l_drawn.nd (pd_op od_mod (pd_op od_fdiv (pd_var 1) pd_int) (pd_callB cd_len (by rfl) z_len (by rfl) (pad_cons (pd_var 5) pad_nil))))
   (psd_one (psd_ret (pd_tup (pad_cons (pd_var 2) (pad_cons (pd_var 3) (pad_cons (pd_var 5) (pad_cons (pd_var 6) (pad_cons (pd_var 7) pad_nil)))))))))))))))
noncomputable def F_l_seen:List D->M S:=fnD 1 0
  (sRetF (fCompIf (iSeq (eVar 0)) 1 [] (gNm 0) (tB (eOp gEq (eOp gIx (eVar 0) (eC (.int 2))) (eC (.str (Str.ofString "seen"))))) (eSl (eVar 0) oNone (oSome (eC (.int 2))))))
theorem sc_l_seen:FnScope ["_law_rows"] ["_law_rows"] (defScope s_l_seen):=⟨rfl,rfl,rfl,by decide +kernel,rfl,by decide +kernel,by decide +kernel⟩
theorem ok_l_seen {f:Addr}{fd:FuncData} (F:Fun K "_law_seen" "_law_seen" s_l_seen f fd)  : FnOk P w K mg base CX0 1 f fd ["_law_rows"] (spN K F_l_seen) :=
 fn_d F sc_l_seen rfl rfl fun cdv A outer s H E hr =>
  (psd_one (psd_retF (pfd_compIf (Nc:=["_law_row"]) rfl (closureFor_none (by decide +kernel)) (cap0 rfl (by decide +kernel)) rfl (by decide +kernel) (by decide +kernel) (keep_name (by decide)) (pid_seq (pd_var 0)) (fun s3 H3 C ex=>pgd_name 0 (show(["_law_row"]:List Str).Nodup by decide +kernel)) (fun s3 H3 C ex=>(ptd_cmp (od_eq hr.units) (pd_ix (pd_var 0) pd_int (fun _ _=>rfl)) pd_str (nomark _))) (fun s3 H3 C ex=>(pd_slice (pd_var 0) pod_none (pod_some pd_int))))))
noncomputable def F_l_back:List D->M S:=fnD 1 0
  (sRet (eOp gIx (eLst (aCons (eOp gSub (eC (.int 0)) (eVar 0)) (aCons (eVar 0) aNil))) (eOp gMod (eVar 0) (eC (.int 2)))))
theorem sc_l_back:FnScope ["_law_number"] ["_law_number"] (defScope s_l_back):=⟨rfl,rfl,rfl,by decide +kernel,rfl,by decide +kernel,by decide +kernel⟩
theorem ok_l_back {f:Addr}{fd:FuncData} (F:Fun K "_law_back" "_law_back" s_l_back f fd)  : FnOk P w K mg base CX0 1 f fd ["_law_number"] (spN K F_l_back) :=
 fn_d F sc_l_back rfl rfl fun cdv A outer s H E hr =>
  (psd_one (psd_ret (pd_ix (pd_lst (pad_cons (pd_op od_sub pd_int (pd_var 0)) (pad_cons (pd_var 0) pad_nil))) (pd_op od_mod (pd_var 0) pd_int) (fun _ _=>rfl))))
noncomputable def F_law:List D->M S:=fnD 1 11
  (sSeq (sAsg (eCall F_l_drawn (aCons (eVar 0) aNil)) (gTupD 5 (gsCons (gNm 1) (gsCons (gNm 2) (gsCons (gNm 3) (gsCons (gNm 4) (gsCons (gNm 5) gsNil)))))))
   (sSeq (sSet 6 (eOp gMod (eCall F_l_cell (aCons (eVar 0) (aCons (eC (.int 1)) aNil))) (eC (.int 4))))
   (sSeq (sSet 7 (eCall F_cells (aCons (eVar 1) (aCons (eVar 2) (aCons (eCB bList (aCons (eVar 3) aNil)) (aCons (eVar 4) (aCons (eVar 5) (aCons (eVar 6) aNil))))))))
   (sSeq (sSet 8 (eCall F_cells (aCons (eVar 1) (aCons (eVar 2) (aCons (eCB bList (aCons (eVar 3) aNil)) (aCons (eVar 5) (aCons (eVar 4) (aCons (eVar 6) aNil))))))))
   (sSeq (sIf (tB (eOp gNe (eCB bSortG (aCons (eNew (fComp (iSeq (eCall F_l_seen (aCons (eVar 7) aNil))) 2 [] (gTupD 2 (gsCons (gNm 0) (gsCons (gNm 1) gsNil))) (eTup (aCons (eCall F_l_back (aCons (eVar 0) aNil)) (aCons (eCall F_l_back (aCons (eVar 1) aNil)) aNil))))) aNil)) (eCall F_l_seen (aCons (eVar 8) aNil)))) (sRet (eC (.bl false))) sNil)
   (sSeq (sIf (tB (eOp gNe (eCall F_how_many (aCons (eVar 1) (aCons (eVar 2) (aCons (eCB bList (aCons (eVar 3) aNil)) (aCons (eVar 5) (aCons (eVar 4) (aCons (eVar 6) aNil))))))) (eCB bLen (aCons (eCall F_l_seen (aCons (eVar 7) aNil)) aNil)))) (sRet (eC (.bl false))) sNil)
   (sSeq (sSet 9 (eNew (fComp (iSeq (eVar 3)) 2 [] (gTupD 2 (gsCons (gNm 0) (gsCons (gNm 1) gsNil))) (eTup (aCons (eVar 1) (aCons (eVar 0) aNil))))))
   (sSeq (sSet 10 (eCall F_cells (aCons (eVar 2) (aCons (eVar 1) (aCons (eVar 9) (aCons (eVar 4) (aCons (eVar 5) (aCons (eVar 6) aNil))))))))
   (sSeq (sIf (tB (eOp gNe (eCB bSortG (aCons (eNew (fComp (iSeq (eVar 10)) 4 [] (gTupD 4 (gsCons (gNm 0) (gsCons (gNm 1) (gsCons (gNm 2) (gsCons (gNm 3) gsNil))))) (eTup (aCons (eVar 1) (aCons (eVar 0) (aCons (eVar 2) aNil)))))) aNil)) (eNew (fComp (iSeq (eVar 7)) 1 [] (gNm 0) (eSl (eVar 0) oNone (oSome (eC (.int 3)))))))) (sRet (eC (.bl false))) sNil)
   (sSeq (sIf (tB (eDEq true (aCons (eNew (fComp (iSeq (eVar 10)) 4 [] (gTupD 4 (gsCons (gNm 0) (gsCons (gNm 1) (gsCons (gNm 2) (gsCons (gNm 3) gsNil))))) (eTup (aCons (eTup (aCons (eVar 1) (aCons (eVar 0) aNil))) (aCons (eVar 3) aNil))))) aNil) (aCons (eNew (fComp (iSeq (eVar 7)) 1 [] (gNm 0) (eTup (aCons (eSl (eVar 0) oNone (oSome (eC (.int 2)))) (aCons (eOp gIx (eVar 0) (eC (.int 3))) aNil))))) aNil))) (sRet (eC (.bl false))) sNil)
   (sSeq (sSet 11 (eNew (fComp (iSeq (eVar 3)) 2 [1] (gTupD 2 (gsCons (gNm 0) (gsCons (gNm 1) gsNil))) (eTup (aCons (eCall F_l_lowest (aCons (eOp gSub (eOp gTimes (eVar 2) (eOp gIx (eVar 0) (eC (.int 1)))) (eOp gIx (eVar 0) (eC (.int 0)))) (aCons (eOp gIx (eVar 0) (eC (.int 1))) aNil))) (aCons (eVar 1) aNil))))))
   (sSeq (sSet 10 (eCall F_cells (aCons (eVar 1) (aCons (eVar 2) (aCons (eVar 11) (aCons (eVar 4) (aCons (eVar 5) (aCons (eVar 6) aNil))))))))
   (sSeq (sIf (tB (eOp gNe (eCB bSortG (aCons (eNew (fComp (iSeq (eVar 10)) 4 [] (gTupD 4 (gsCons (gNm 0) (gsCons (gNm 1) (gsCons (gNm 2) (gsCons (gNm 3) gsNil))))) (eTup (aCons (eOp gSub (eC (.int 0)) (eVar 0)) (aCons (eVar 1) (aCons (eVar 2) aNil)))))) aNil)) (eNew (fComp (iSeq (eVar 7)) 1 [] (gNm 0) (eSl (eVar 0) oNone (oSome (eC (.int 3)))))))) (sRet (eC (.bl false))) sNil)
   (sRet (eDEq false (aCons (eNew (fComp (iSeq (eVar 10)) 4 [] (gTupD 4 (gsCons (gNm 0) (gsCons (gNm 1) (gsCons (gNm 2) (gsCons (gNm 3) gsNil))))) (eTup (aCons (eTup (aCons (eOp gSub (eC (.int 0)) (eVar 0)) (aCons (eVar 1) aNil))) (aCons (eVar 3) aNil))))) aNil) (aCons (eNew (fComp (iSeq (eVar 7)) 1 [] (gNm 0) (eTup (aCons (eSl (eVar 0) oNone (oSome (eC (.int 2)))) (aCons (eOp gIx (eVar 0) (eC (.int 3))) aNil))))) aNil))))))))))))))))
theorem sc_law:FnScope ["_law_script", "_law_width", "_law_height", "_law_people_here", "_law_one", "_law_other", "_law_most", "_law_found", "_law_back_here", "_law_lain", "_law_rows", "_law_turned_people"] ["_law_script"] (defScope s_law):=⟨rfl,rfl,rfl,by decide +kernel,rfl,by decide +kernel,by decide +kernel⟩
theorem ok_law {f:Addr}{fd:FuncData} (F:Fun K "law" "law" s_law f fd) {f_l_drawn:Addr} {fd_l_drawn:FuncData} (G_l_drawn:FnOk P w K mg base CX0 5 f_l_drawn fd_l_drawn ["_law_script"] (spN K F_l_drawn)) (b_l_drawn:Binds K fd_l_drawn ["_law_script"] []) (k_l_drawn:PySem.W.keepIn K (.ref f_l_drawn)=true) (m_l_drawn:mg "_law_drawn" = some (.ref f_l_drawn)) {f_l_cell:Addr} {fd_l_cell:FuncData} (G_l_cell:FnOk P w K mg base CX0 1 f_l_cell fd_l_cell ["_law_script", "_law_k"] (spN K F_l_cell)) (b_l_cell:Binds K fd_l_cell ["_law_script", "_law_k"] []) (k_l_cell:PySem.W.keepIn K (.ref f_l_cell)=true) (m_l_cell:mg "_law_cell" = some (.ref f_l_cell)) {f_cells:Addr} {fd_cells:FuncData} (G_cells:FnOk P w K mg base CX0 7 f_cells fd_cells ["width", "height", "people", "one", "other", "most"] (spN K F_cells)) (b_cells:Binds K fd_cells ["width", "height", "people", "one", "other", "most"] []) (k_cells:PySem.W.keepIn K (.ref f_cells)=true) (m_cells:mg "cells" = some (.ref f_cells)) {f_l_seen:Addr} {fd_l_seen:FuncData} (G_l_seen:FnOk P w K mg base CX0 1 f_l_seen fd_l_seen ["_law_rows"] (spN K F_l_seen)) (b_l_seen:Binds K fd_l_seen ["_law_rows"] []) (k_l_seen:PySem.W.keepIn K (.ref f_l_seen)=true) (m_l_seen:mg "_law_seen" = some (.ref f_l_seen)) {f_l_back:Addr} {fd_l_back:FuncData} (G_l_back:FnOk P w K mg base CX0 1 f_l_back fd_l_back ["_law_number"] (spN K F_l_back)) (b_l_back:Binds K fd_l_back ["_law_number"] []) (k_l_back:PySem.W.keepIn K (.ref f_l_back)=true) (m_l_back:mg "_law_back" = some (.ref f_l_back)) {f_how_many:Addr} {fd_how_many:FuncData} (G_how_many:FnOk P w K mg base CX0 8 f_how_many fd_how_many ["width", "height", "people", "one", "other", "most"] (spN K F_how_many)) (b_how_many:Binds K fd_how_many ["width", "height", "people", "one", "other", "most"] []) (k_how_many:PySem.W.keepIn K (.ref f_how_many)=true) (m_how_many:mg "how_many" = some (.ref f_how_many)) {f_l_lowest:Addr} {fd_l_lowest:FuncData} (G_l_lowest:FnOk P w K mg base CX0 1 f_l_lowest fd_l_lowest ["_law_top", "_law_bottom"] (spN K F_l_lowest)) (b_l_lowest:Binds K fd_l_lowest ["_law_top", "_law_bottom"] []) (k_l_lowest:PySem.W.keepIn K (.ref f_l_lowest)=true) (m_l_lowest:mg "_law_lowest" = some (.ref f_l_lowest)) (z_list:mg "list" = none) (z_sorted:mg "sorted" = none) (z_len:mg "len" = none) (z_dict:mg "dict" = none):FnOk P w K mg base CX0 9 f fd ["_law_script"] (spN K F_law) :=
 fn_d F sc_law rfl rfl fun cdv A outer s H E hr =>
  (psd_cons (psd_asg (pd_call G_l_drawn (hr.mono (by decide)) m_l_drawn k_l_drawn b_l_drawn (pad_cons (pd_var 0) pad_nil)) (pgd_tup rfl (pgsd_cons (pgd_name 1 sc_law.nd) (pgsd_cons (pgd_name 2 sc_law.nd) (pgsd_cons (pgd_name 3 sc_law.nd) (pgsd_cons (pgd_name 4 sc_law.nd) (pgsd_cons (pgd_name 5 sc_law.nd) pgsd_nil)))))))
   (psd_cons (psd_set 6 sc_law.nd (pd_op od_mod (pd_call G_l_cell (hr.mono (by decide)) m_l_cell k_l_cell b_l_cell (pad_cons (pd_var 0) (pad_cons pd_int pad_nil))) pd_int))
   (psd_cons (psd_set 7 sc_law.nd (pd_call G_cells (hr.mono (by decide)) m_cells k_cells b_cells (pad_cons (pd_var 1) (pad_cons (pd_var 2) (pad_cons (pd_callT cd_list (by rfl) z_list (by rfl) (pad_cons (pd_var 3) pad_nil)) (pad_cons (pd_var 4) (pad_cons (pd_var 5) (pad_cons (pd_var 6) pad_nil))))))))
   (psd_cons (psd_set 8 sc_law.nd (pd_call G_cells (hr.mono (by decide)) m_cells k_cells b_cells (pad_cons (pd_var 1) (pad_cons (pd_var 2) (pad_cons (pd_callT cd_list (by rfl) z_list (by rfl) (pad_cons (pd_var 3) pad_nil)) (pad_cons (pd_var 5) (pad_cons (pd_var 4) (pad_cons (pd_var 6) pad_nil))))))))
   (psd_cons (psd_if (ptd_cmp (od_ne hr.units) (pd_callB cd_sortG (by rfl) z_sorted (by rfl) (pad_cons (pd_new (pfd_comp (Nc:=["_law_i", "_law_j"]) rfl (closureFor_none (by decide +kernel)) (cap0 rfl (by decide +kernel)) rfl (by decide +kernel) (by decide +kernel) (keep_tup (keeps_cons (keep_name (by decide)) (keeps_cons (keep_name (by decide)) keeps_nil))) (pid_seq (pd_call G_l_seen (hr.mono (by decide)) m_l_seen k_l_seen b_l_seen (pad_cons (pd_var 7) pad_nil))) (fun s3 H3 C ex=>pgd_tup rfl (pgsd_cons (pgd_name 0 (show(["_law_i", "_law_j"]:List Str).Nodup by decide +kernel)) (pgsd_cons (pgd_name 1 (show(["_law_i", "_law_j"]:List Str).Nodup by decide +kernel)) pgsd_nil))) (fun s3 H3 C ex=>(pd_tup (pad_cons (pd_call G_l_back (hr.mono (by decide)) m_l_back k_l_back b_l_back (pad_cons (pd_var 0) pad_nil)) (pad_cons (pd_call G_l_back (hr.mono (by decide)) m_l_back k_l_back b_l_back (pad_cons (pd_var 1) pad_nil)) pad_nil)))))) pad_nil)) (pd_call G_l_seen (hr.mono (by decide)) m_l_seen k_l_seen b_l_seen (pad_cons (pd_var 8) pad_nil)) (nomark _)) (psd_one (psd_ret pd_bl)) psd_nil)
   (psd_cons (psd_if (ptd_cmp (od_ne hr.units) (pd_call G_how_many (hr.mono (by decide)) m_how_many k_how_many b_how_many (pad_cons (pd_var 1) (pad_cons (pd_var 2) (pad_cons (pd_callT cd_list (by rfl) z_list (by rfl) (pad_cons (pd_var 3) pad_nil)) (pad_cons (pd_var 5) (pad_cons (pd_var 4) (pad_cons (pd_var 6) pad_nil))))))) (pd_callB cd_len (by rfl) z_len (by rfl) (pad_cons (pd_call G_l_seen (hr.mono (by decide)) m_l_seen k_l_seen b_l_seen (pad_cons (pd_var 7) pad_nil)) pad_nil)) (nomark _)) (psd_one (psd_ret pd_bl)) psd_nil)
   (psd_cons (psd_setC 9 sc_law.nd (Nc:=["_law_x", "_law_y"]) rfl (closureFor_none (by decide +kernel)) (cap0 rfl (by decide +kernel)) rfl (by decide +kernel) (by decide +kernel) (keep_tup (keeps_cons (keep_name (by decide)) (keeps_cons (keep_name (by decide)) keeps_nil))) (pid_seq (pd_var 3)) (fun s3 H3 C ex=>pgd_tup rfl (pgsd_cons (pgd_name 0 (show(["_law_x", "_law_y"]:List Str).Nodup by decide +kernel)) (pgsd_cons (pgd_name 1 (show(["_law_x", "_law_y"]:List Str).Nodup by decide +kernel)) pgsd_nil))) (fun s3 H3 C ex=>(pd_tup (pad_cons (pd_var 1) (pad_cons (pd_var 0) pad_nil)))))
   (psd_cons (psd_set 10 sc_law.nd (pd_call G_cells (hr.mono (by decide)) m_cells k_cells b_cells (pad_cons (pd_var 2) (pad_cons (pd_var 1) (pad_cons (pd_var 9) (pad_cons (pd_var 4) (pad_cons (pd_var 5) (pad_cons (pd_var 6) pad_nil))))))))
   (psd_cons (psd_if (ptd_cmp (od_ne hr.units) (pd_callB cd_sortG (by rfl) z_sorted (by rfl) (pad_cons (pd_new (pfd_comp (Nc:=["_law_i", "_law_j", "_law_word", "_law_who"]) rfl (closureFor_none (by decide +kernel)) (cap0 rfl (by decide +kernel)) rfl (by decide +kernel) (by decide +kernel) (keep_tup (keeps_cons (keep_name (by decide)) (keeps_cons (keep_name (by decide)) (keeps_cons (keep_name (by decide)) (keeps_cons (keep_name (by decide)) keeps_nil))))) (pid_seq (pd_var 10)) (fun s3 H3 C ex=>pgd_tup rfl (pgsd_cons (pgd_name 0 (show(["_law_i", "_law_j", "_law_word", "_law_who"]:List Str).Nodup by decide +kernel)) (pgsd_cons (pgd_name 1 (show(["_law_i", "_law_j", "_law_word", "_law_who"]:List Str).Nodup by decide +kernel)) (pgsd_cons (pgd_name 2 (show(["_law_i", "_law_j", "_law_word", "_law_who"]:List Str).Nodup by decide +kernel)) (pgsd_cons (pgd_name 3 (show(["_law_i", "_law_j", "_law_word", "_law_who"]:List Str).Nodup by decide +kernel)) pgsd_nil))))) (fun s3 H3 C ex=>(pd_tup (pad_cons (pd_var 1) (pad_cons (pd_var 0) (pad_cons (pd_var 2) pad_nil))))))) pad_nil)) (pd_new (pfd_comp (Nc:=["_law_row"]) rfl (closureFor_none (by decide +kernel)) (cap0 rfl (by decide +kernel)) rfl (by decide +kernel) (by decide +kernel) (keep_name (by decide)) (pid_seq (pd_var 7)) (fun s3 H3 C ex=>pgd_name 0 (show(["_law_row"]:List Str).Nodup by decide +kernel)) (fun s3 H3 C ex=>(pd_slice (pd_var 0) pod_none (pod_some pd_int))))) (nomark _)) (psd_one (psd_ret pd_bl)) psd_nil)
   (psd_cons (psd_if (ptd_dne hr.units rfl (by rfl) z_dict (by rfl) (pad_cons (pd_new (pfd_comp (Nc:=["_law_i", "_law_j", "_law_word", "_law_who"]) rfl (closureFor_none (by decide +kernel)) (cap0 rfl (by decide +kernel)) rfl (by decide +kernel) (by decide +kernel) (keep_tup (keeps_cons (keep_name (by decide)) (keeps_cons (keep_name (by decide)) (keeps_cons (keep_name (by decide)) (keeps_cons (keep_name (by decide)) keeps_nil))))) (pid_seq (pd_var 10)) (fun s3 H3 C ex=>pgd_tup rfl (pgsd_cons (pgd_name 0 (show(["_law_i", "_law_j", "_law_word", "_law_who"]:List Str).Nodup by decide +kernel)) (pgsd_cons (pgd_name 1 (show(["_law_i", "_law_j", "_law_word", "_law_who"]:List Str).Nodup by decide +kernel)) (pgsd_cons (pgd_name 2 (show(["_law_i", "_law_j", "_law_word", "_law_who"]:List Str).Nodup by decide +kernel)) (pgsd_cons (pgd_name 3 (show(["_law_i", "_law_j", "_law_word", "_law_who"]:List Str).Nodup by decide +kernel)) pgsd_nil))))) (fun s3 H3 C ex=>(pd_tup (pad_cons (pd_tup (pad_cons (pd_var 1) (pad_cons (pd_var 0) pad_nil))) (pad_cons (pd_var 3) pad_nil)))))) pad_nil) (pad_cons (pd_new (pfd_comp (Nc:=["_law_row"]) rfl (closureFor_none (by decide +kernel)) (cap0 rfl (by decide +kernel)) rfl (by decide +kernel) (by decide +kernel) (keep_name (by decide)) (pid_seq (pd_var 7)) (fun s3 H3 C ex=>pgd_name 0 (show(["_law_row"]:List Str).Nodup by decide +kernel)) (fun s3 H3 C ex=>(pd_tup (pad_cons (pd_slice (pd_var 0) pod_none (pod_some pd_int)) (pad_cons (pd_ix (pd_var 0) pd_int (fun _ _=>rfl)) pad_nil)))))) pad_nil)) (psd_one (psd_ret pd_bl)) psd_nil)
   (psd_cons (psd_setC 11 sc_law.nd (Nc:=["_law_x", "_law_y", "_law_width"]) rfl (closure_eq (fun y hy hf=>cell_has (capF (sc:=defScope s_law) (by decide +kernel) y hy hf))) (capN (sc:=defScope s_law) rfl rfl (by decide +kernel) (capF (by decide +kernel)) (fun y hy hf=>cell_has (capF (sc:=defScope s_law) (by decide +kernel) y hy hf)) rfl (capB_ok (N:=["_law_script", "_law_width", "_law_height", "_law_people_here", "_law_one", "_law_other", "_law_most", "_law_found", "_law_back_here", "_law_lain", "_law_rows", "_law_turned_people"]) rfl (by decide +kernel))) rfl (by decide +kernel) (by decide +kernel) (keep_tup (keeps_cons (keep_name (by decide)) (keeps_cons (keep_name (by decide)) keeps_nil))) (pid_seq (pd_var 3)) (fun s3 H3 C ex=>pgd_tup rfl (pgsd_cons (pgd_name 0 (show(["_law_x", "_law_y", "_law_width"]:List Str).Nodup by decide +kernel)) (pgsd_cons (pgd_name 1 (show(["_law_x", "_law_y", "_law_width"]:List Str).Nodup by decide +kernel)) pgsd_nil))) (fun s3 H3 C ex=>(pd_tup (pad_cons (pd_call G_l_lowest (hr.mono (by decide)) m_l_lowest k_l_lowest b_l_lowest (pad_cons (pd_op od_sub (pd_op od_times (pd_var 2) (pd_ix (pd_var 0) pd_int (fun _ _=>rfl))) (pd_ix (pd_var 0) pd_int (fun _ _=>rfl))) (pad_cons (pd_ix (pd_var 0) pd_int (fun _ _=>rfl)) pad_nil))) (pad_cons (pd_var 1) pad_nil)))))
   (psd_cons (psd_set 10 sc_law.nd (pd_call G_cells (hr.mono (by decide)) m_cells k_cells b_cells (pad_cons (pd_var 1) (pad_cons (pd_var 2) (pad_cons (pd_var 11) (pad_cons (pd_var 4) (pad_cons (pd_var 5) (pad_cons (pd_var 6) pad_nil))))))))
   (psd_cons (psd_if (ptd_cmp (od_ne hr.units) (pd_callB cd_sortG (by rfl) z_sorted (by rfl) (pad_cons (pd_new (pfd_comp (Nc:=["_law_i", "_law_j", "_law_word", "_law_who"]) rfl (closureFor_none (by decide +kernel)) (cap0 rfl (by decide +kernel)) rfl (by decide +kernel) (by decide +kernel) (keep_tup (keeps_cons (keep_name (by decide)) (keeps_cons (keep_name (by decide)) (keeps_cons (keep_name (by decide)) (keeps_cons (keep_name (by decide)) keeps_nil))))) (pid_seq (pd_var 10)) (fun s3 H3 C ex=>pgd_tup rfl (pgsd_cons (pgd_name 0 (show(["_law_i", "_law_j", "_law_word", "_law_who"]:List Str).Nodup by decide +kernel)) (pgsd_cons (pgd_name 1 (show(["_law_i", "_law_j", "_law_word", "_law_who"]:List Str).Nodup by decide +kernel)) (pgsd_cons (pgd_name 2 (show(["_law_i", "_law_j", "_law_word", "_law_who"]:List Str).Nodup by decide +kernel)) (pgsd_cons (pgd_name 3 (show(["_law_i", "_law_j", "_law_word", "_law_who"]:List Str).Nodup by decide +kernel)) pgsd_nil))))) (fun s3 H3 C ex=>(pd_tup (pad_cons (pd_op od_sub pd_int (pd_var 0)) (pad_cons (pd_var 1) (pad_cons (pd_var 2) pad_nil))))))) pad_nil)) (pd_new (pfd_comp (Nc:=["_law_row"]) rfl (closureFor_none (by decide +kernel)) (cap0 rfl (by decide +kernel)) rfl (by decide +kernel) (by decide +kernel) (keep_name (by decide)) (pid_seq (pd_var 7)) (fun s3 H3 C ex=>pgd_name 0 (show(["_law_row"]:List Str).Nodup by decide +kernel)) (fun s3 H3 C ex=>(pd_slice (pd_var 0) pod_none (pod_some pd_int))))) (nomark _)) (psd_one (psd_ret pd_bl)) psd_nil)
   (psd_one (psd_ret (pd_deq hr.units rfl (by rfl) z_dict (by rfl) (pad_cons (pd_new (pfd_comp (Nc:=["_law_i", "_law_j", "_law_word", "_law_who"]) rfl (closureFor_none (by decide +kernel)) (cap0 rfl (by decide +kernel)) rfl (by decide +kernel) (by decide +kernel) (keep_tup (keeps_cons (keep_name (by decide)) (keeps_cons (keep_name (by decide)) (keeps_cons (keep_name (by decide)) (keeps_cons (keep_name (by decide)) keeps_nil))))) (pid_seq (pd_var 10)) (fun s3 H3 C ex=>pgd_tup rfl (pgsd_cons (pgd_name 0 (show(["_law_i", "_law_j", "_law_word", "_law_who"]:List Str).Nodup by decide +kernel)) (pgsd_cons (pgd_name 1 (show(["_law_i", "_law_j", "_law_word", "_law_who"]:List Str).Nodup by decide +kernel)) (pgsd_cons (pgd_name 2 (show(["_law_i", "_law_j", "_law_word", "_law_who"]:List Str).Nodup by decide +kernel)) (pgsd_cons (pgd_name 3 (show(["_law_i", "_law_j", "_law_word", "_law_who"]:List Str).Nodup by decide +kernel)) pgsd_nil))))) (fun s3 H3 C ex=>(pd_tup (pad_cons (pd_tup (pad_cons (pd_op od_sub pd_int (pd_var 0)) (pad_cons (pd_var 1) pad_nil))) (pad_cons (pd_var 3) pad_nil)))))) pad_nil) (pad_cons (pd_new (pfd_comp (Nc:=["_law_row"]) rfl (closureFor_none (by decide +kernel)) (cap0 rfl (by decide +kernel)) rfl (by decide +kernel) (by decide +kernel) (keep_name (by decide)) (pid_seq (pd_var 7)) (fun s3 H3 C ex=>pgd_name 0 (show(["_law_row"]:List Str).Nodup by decide +kernel)) (fun s3 H3 C ex=>(pd_tup (pad_cons (pd_slice (pd_var 0) pod_none (pod_some pd_int)) (pad_cons (pd_ix (pd_var 0) pd_int (fun _ _=>rfl)) pad_nil)))))) pad_nil)))))))))))))))))
end
theorem all_mk {l:PySem.W.OpenLaw}{w:World}{K:PySem.W.Frag}{h:Heap}{mg:Str->Option Value}{fa f0 f1 f2 f3 f4 f5 f6 f7 f8 f9 f10 f11 f12 f13 f14 f15 f16 f17 f18 f19 f20 f21 f22 f23 f24 f25:Addr}(X:K.In h)(G:h.Ns mainGlobals mg) (hfa:mg "law" = some (.ref fa))
  {od0 an0 od1 an1 od2 an2 od3 an3 od4 an4 od5 an5 od6 an6 od7 an7 od8 an8 od9 an9 od10 an10 od11 an11 od12 an12 od13 an13 od14 an14 od15 an15 od16 an16 od17 an17 od18 an18 od19 an19 od20 an20 od21 an21 od22 an22 od23 an23 od24 an24 od25 an25:Option Addr} {sl0 sl1 sl2 sl3 sl4 sl5 sl6 sl7 sl8 sl9 sl10 sl11 sl12 sl13 sl14 sl15 sl16 sl17 sl18 sl19 sl20 sl21 sl22 sl23 sl24 sl25:Array (Option Value)} {oc0 kV0 dc0 pm0 cd0 ct0 oc1 kV1 dc1 pm1 cd1 ct1 oc2 kV2 dc2 pm2 cd2 ct2 oc3 kV3 dc3 pm3 cd3 ct3 oc4 kV4 dc4 pm4 cd4 ct4 oc5 kV5 dc5 pm5 cd5 ct5 oc6 kV6 dc6 pm6 cd6 ct6 oc7 kV7 dc7 pm7 cd7 ct7 oc8 kV8 dc8 pm8 cd8 ct8 oc9 kV9 dc9 pm9 cd9 ct9 oc10 kV10 dc10 pm10 cd10 ct10 oc11 kV11 dc11 pm11 cd11 ct11 oc12 kV12 dc12 pm12 cd12 ct12 oc13 kV13 dc13 pm13 cd13 ct13 oc14 kV14 dc14 pm14 cd14 ct14 oc15 kV15 dc15 pm15 cd15 ct15 oc16 kV16 dc16 pm16 cd16 ct16 oc17 kV17 dc17 pm17 cd17 ct17 oc18 kV18 dc18 pm18 cd18 ct18 oc19 kV19 dc19 pm19 cd19 ct19 oc20 kV20 dc20 pm20 cd20 ct20 oc21 kV21 dc21 pm21 cd21 ct21 oc22 kV22 dc22 pm22 cd22 ct22 oc23 kV23 dc23 pm23 cd23 ct23 oc24 kV24 dc24 pm24 cd24 ct24 oc25 kV25 dc25 pm25 cd25 ct25:Value}
  (a0:PySem.W.nsIn K mainGlobals "common_divisor" = some (some (.ref f0))) (l0:K.lookup f0=some ⟨oc0,od0,.func (PySem.W.fnOf "common_divisor" "common_divisor" (defArgs s_common_divisor) (defBody s_common_divisor) (defScope s_common_divisor) .none kV0 dc0 pm0 an0 cd0 ct0),sl0⟩) (c0:PySem.W.codeIn K cd0 "common_divisor" = true) (k0:PySem.W.keepIn K (.ref f0)=true)
  (a1:PySem.W.nsIn K mainGlobals "amount" = some (some (.ref f1))) (l1:K.lookup f1=some ⟨oc1,od1,.func (PySem.W.fnOf "amount" "amount" (defArgs s_amount) (defBody s_amount) (defScope s_amount) .none kV1 dc1 pm1 an1 cd1 ct1),sl1⟩) (c1:PySem.W.codeIn K cd1 "amount" = true) (k1:PySem.W.keepIn K (.ref f1)=true)
  (a2:PySem.W.nsIn K mainGlobals "plus" = some (some (.ref f2))) (l2:K.lookup f2=some ⟨oc2,od2,.func (PySem.W.fnOf "plus" "plus" (defArgs s_plus) (defBody s_plus) (defScope s_plus) .none kV2 dc2 pm2 an2 cd2 ct2),sl2⟩) (c2:PySem.W.codeIn K cd2 "plus" = true) (k2:PySem.W.keepIn K (.ref f2)=true)
  (a3:PySem.W.nsIn K mainGlobals "minus" = some (some (.ref f3))) (l3:K.lookup f3=some ⟨oc3,od3,.func (PySem.W.fnOf "minus" "minus" (defArgs s_minus) (defBody s_minus) (defScope s_minus) .none kV3 dc3 pm3 an3 cd3 ct3),sl3⟩) (c3:PySem.W.codeIn K cd3 "minus" = true) (k3:PySem.W.keepIn K (.ref f3)=true)
  (a4:PySem.W.nsIn K mainGlobals "below" = some (some (.ref f4))) (l4:K.lookup f4=some ⟨oc4,od4,.func (PySem.W.fnOf "below" "below" (defArgs s_below) (defBody s_below) (defScope s_below) .none kV4 dc4 pm4 an4 cd4 ct4),sl4⟩) (c4:PySem.W.codeIn K cd4 "below" = true) (k4:PySem.W.keepIn K (.ref f4)=true)
  (a5:PySem.W.nsIn K mainGlobals "direction" = some (some (.ref f5))) (l5:K.lookup f5=some ⟨oc5,od5,.func (PySem.W.fnOf "direction" "direction" (defArgs s_direction) (defBody s_direction) (defScope s_direction) .none kV5 dc5 pm5 an5 cd5 ct5),sl5⟩) (c5:PySem.W.codeIn K cd5 "direction" = true) (k5:PySem.W.keepIn K (.ref f5)=true)
  (a6:PySem.W.nsIn K mainGlobals "folded_out" = some (some (.ref f6))) (l6:K.lookup f6=some ⟨oc6,od6,.func (PySem.W.fnOf "folded_out" "folded_out" (defArgs s_folded_out) (defBody s_folded_out) (defScope s_folded_out) .none kV6 dc6 pm6 an6 cd6 ct6),sl6⟩) (c6:PySem.W.codeIn K cd6 "folded_out" = true) (k6:PySem.W.keepIn K (.ref f6)=true)
  (a7:PySem.W.nsIn K mainGlobals "image_at" = some (some (.ref f7))) (l7:K.lookup f7=some ⟨oc7,od7,.func (PySem.W.fnOf "image_at" "image_at" (defArgs s_image_at) (defBody s_image_at) (defScope s_image_at) .none kV7 dc7 pm7 an7 cd7 ct7),sl7⟩) (c7:PySem.W.codeIn K cd7 "image_at" = true) (k7:PySem.W.keepIn K (.ref f7)=true)
  (a8:PySem.W.nsIn K mainGlobals "cells_within" = some (some (.ref f8))) (l8:K.lookup f8=some ⟨oc8,od8,.func (PySem.W.fnOf "cells_within" "cells_within" (defArgs s_cells_within) (defBody s_cells_within) (defScope s_cells_within) .none kV8 dc8 pm8 an8 cd8 ct8),sl8⟩) (c8:PySem.W.codeIn K cd8 "cells_within" = true) (k8:PySem.W.keepIn K (.ref f8)=true)
  (a9:PySem.W.nsIn K mainGlobals "rim_points" = some (some (.ref f9))) (l9:K.lookup f9=some ⟨oc9,od9,.func (PySem.W.fnOf "rim_points" "rim_points" (defArgs s_rim_points) (defBody s_rim_points) (defScope s_rim_points) .none kV9 dc9 pm9 an9 cd9 ct9),sl9⟩) (c9:PySem.W.codeIn K cd9 "rim_points" = true) (k9:PySem.W.keepIn K (.ref f9)=true)
  (a10:PySem.W.nsIn K mainGlobals "things_in" = some (some (.ref f10))) (l10:K.lookup f10=some ⟨oc10,od10,.func (PySem.W.fnOf "things_in" "things_in" (defArgs s_things_in) (defBody s_things_in) (defScope s_things_in) .none kV10 dc10 pm10 an10 cd10 ct10),sl10⟩) (c10:PySem.W.codeIn K cd10 "things_in" = true) (k10:PySem.W.keepIn K (.ref f10)=true)
  (a11:PySem.W.nsIn K mainGlobals "step_to" = some (some (.ref f11))) (l11:K.lookup f11=some ⟨oc11,od11,.func (PySem.W.fnOf "step_to" "step_to" (defArgs s_step_to) (defBody s_step_to) (defScope s_step_to) .none kV11 dc11 pm11 an11 cd11 ct11),sl11⟩) (c11:PySem.W.codeIn K cd11 "step_to" = true) (k11:PySem.W.keepIn K (.ref f11)=true)
  (a12:PySem.W.nsIn K mainGlobals "length" = some (some (.ref f12))) (l12:K.lookup f12=some ⟨oc12,od12,.func (PySem.W.fnOf "length" "length" (defArgs s_length) (defBody s_length) (defScope s_length) .none kV12 dc12 pm12 an12 cd12 ct12),sl12⟩) (c12:PySem.W.codeIn K cd12 "length" = true) (k12:PySem.W.keepIn K (.ref f12)=true)
  (a13:PySem.W.nsIn K mainGlobals "first_things" = some (some (.ref f13))) (l13:K.lookup f13=some ⟨oc13,od13,.func (PySem.W.fnOf "first_things" "first_things" (defArgs s_first_things) (defBody s_first_things) (defScope s_first_things) .none kV13 dc13 pm13 an13 cd13 ct13),sl13⟩) (c13:PySem.W.codeIn K cd13 "first_things" = true) (k13:PySem.W.keepIn K (.ref f13)=true)
  (a14:PySem.W.nsIn K mainGlobals "cells" = some (some (.ref f14))) (l14:K.lookup f14=some ⟨oc14,od14,.func (PySem.W.fnOf "cells" "cells" (defArgs s_cells) (defBody s_cells) (defScope s_cells) .none kV14 dc14 pm14 an14 cd14 ct14),sl14⟩) (c14:PySem.W.codeIn K cd14 "cells" = true) (k14:PySem.W.keepIn K (.ref f14)=true)
  (a15:PySem.W.nsIn K mainGlobals "how_many" = some (some (.ref f15))) (l15:K.lookup f15=some ⟨oc15,od15,.func (PySem.W.fnOf "how_many" "how_many" (defArgs s_how_many) (defBody s_how_many) (defScope s_how_many) .none kV15 dc15 pm15 an15 cd15 ct15),sl15⟩) (c15:PySem.W.codeIn K cd15 "how_many" = true) (k15:PySem.W.keepIn K (.ref f15)=true)
  (a16:PySem.W.nsIn K mainGlobals "_law_cell" = some (some (.ref f16))) (l16:K.lookup f16=some ⟨oc16,od16,.func (PySem.W.fnOf "_law_cell" "_law_cell" (defArgs s_l_cell) (defBody s_l_cell) (defScope s_l_cell) .none kV16 dc16 pm16 an16 cd16 ct16),sl16⟩) (c16:PySem.W.codeIn K cd16 "_law_cell" = true) (k16:PySem.W.keepIn K (.ref f16)=true)
  (a17:PySem.W.nsIn K mainGlobals "_law_numbers" = some (some (.ref f17))) (l17:K.lookup f17=some ⟨oc17,od17,.func (PySem.W.fnOf "_law_numbers" "_law_numbers" (defArgs s_l_numbers) (defBody s_l_numbers) (defScope s_l_numbers) .none kV17 dc17 pm17 an17 cd17 ct17),sl17⟩) (c17:PySem.W.codeIn K cd17 "_law_numbers" = true) (k17:PySem.W.keepIn K (.ref f17)=true)
  (a18:PySem.W.nsIn K mainGlobals "_law_lowest" = some (some (.ref f18))) (l18:K.lookup f18=some ⟨oc18,od18,.func (PySem.W.fnOf "_law_lowest" "_law_lowest" (defArgs s_l_lowest) (defBody s_l_lowest) (defScope s_l_lowest) .none kV18 dc18 pm18 an18 cd18 ct18),sl18⟩) (c18:PySem.W.codeIn K cd18 "_law_lowest" = true) (k18:PySem.W.keepIn K (.ref f18)=true)
  (a19:PySem.W.nsIn K mainGlobals "_law_part" = some (some (.ref f19))) (l19:K.lookup f19=some ⟨oc19,od19,.func (PySem.W.fnOf "_law_part" "_law_part" (defArgs s_l_part) (defBody s_l_part) (defScope s_l_part) .none kV19 dc19 pm19 an19 cd19 ct19),sl19⟩) (c19:PySem.W.codeIn K cd19 "_law_part" = true) (k19:PySem.W.keepIn K (.ref f19)=true)
  (a20:PySem.W.nsIn K mainGlobals "_law_point" = some (some (.ref f20))) (l20:K.lookup f20=some ⟨oc20,od20,.func (PySem.W.fnOf "_law_point" "_law_point" (defArgs s_l_point) (defBody s_l_point) (defScope s_l_point) .none kV20 dc20 pm20 an20 cd20 ct20),sl20⟩) (c20:PySem.W.codeIn K cd20 "_law_point" = true) (k20:PySem.W.keepIn K (.ref f20)=true)
  (a21:PySem.W.nsIn K mainGlobals "_law_people" = some (some (.ref f21))) (l21:K.lookup f21=some ⟨oc21,od21,.func (PySem.W.fnOf "_law_people" "_law_people" (defArgs s_l_people) (defBody s_l_people) (defScope s_l_people) .none kV21 dc21 pm21 an21 cd21 ct21),sl21⟩) (c21:PySem.W.codeIn K cd21 "_law_people" = true) (k21:PySem.W.keepIn K (.ref f21)=true)
  (a22:PySem.W.nsIn K mainGlobals "_law_drawn" = some (some (.ref f22))) (l22:K.lookup f22=some ⟨oc22,od22,.func (PySem.W.fnOf "_law_drawn" "_law_drawn" (defArgs s_l_drawn) (defBody s_l_drawn) (defScope s_l_drawn) .none kV22 dc22 pm22 an22 cd22 ct22),sl22⟩) (c22:PySem.W.codeIn K cd22 "_law_drawn" = true) (k22:PySem.W.keepIn K (.ref f22)=true)
  (a23:PySem.W.nsIn K mainGlobals "_law_seen" = some (some (.ref f23))) (l23:K.lookup f23=some ⟨oc23,od23,.func (PySem.W.fnOf "_law_seen" "_law_seen" (defArgs s_l_seen) (defBody s_l_seen) (defScope s_l_seen) .none kV23 dc23 pm23 an23 cd23 ct23),sl23⟩) (c23:PySem.W.codeIn K cd23 "_law_seen" = true) (k23:PySem.W.keepIn K (.ref f23)=true)
  (a24:PySem.W.nsIn K mainGlobals "_law_back" = some (some (.ref f24))) (l24:K.lookup f24=some ⟨oc24,od24,.func (PySem.W.fnOf "_law_back" "_law_back" (defArgs s_l_back) (defBody s_l_back) (defScope s_l_back) .none kV24 dc24 pm24 an24 cd24 ct24),sl24⟩) (c24:PySem.W.codeIn K cd24 "_law_back" = true) (k24:PySem.W.keepIn K (.ref f24)=true)
  (a25:PySem.W.nsIn K mainGlobals "law" = some (some (.ref f25))) (l25:K.lookup f25=some ⟨oc25,od25,.func (PySem.W.fnOf "law" "law" (defArgs s_law) (defBody s_law) (defScope s_law) .none kV25 dc25 pm25 an25 cd25 ct25),sl25⟩) (c25:PySem.W.codeIn K cd25 "law" = true) (k25:PySem.W.keepIn K (.ref f25)=true)
  {at_NO_STEP:Addr} (yg_NO_STEP:PySem.W.nsIn K mainGlobals "NO_STEP" = some (some (.ref at_NO_STEP))) (yb_NO_STEP:fourB K at_NO_STEP 0 1 0 1=true)
  (z_abs:PySem.W.nsIn K mainGlobals "abs" = some none)
  (z_range:PySem.W.nsIn K mainGlobals "range" = some none)
  (z_enumerate:PySem.W.nsIn K mainGlobals "enumerate" = some none)
  (z_len:PySem.W.nsIn K mainGlobals "len" = some none)
  (z_int:PySem.W.nsIn K mainGlobals "int" = some none)
  (z_list:PySem.W.nsIn K mainGlobals "list" = some none)
  (z_sorted:PySem.W.nsIn K mainGlobals "sorted" = some none)
  (z_dict:PySem.W.nsIn K mainGlobals "dict" = some none)
  : ∃fd:FuncData,(∀(s:Shared) (v:Value),BindsTo s fd ⟨[v],[]⟩ [("_law_script", v)])/\∀base:Heap,K.In base->base.Ns mainGlobals mg->FnOk l.prog w K mg base CX0 9 fa fd ["_law_script"] (spN K F_law):=by
 have e:=hfa.symm.trans (PySem.W.mg_of X G a25)
 cases e
 have F0:=fun_mk (st:=s_common_divisor) l0 c0 k0
 have b0:=F0.binds (ps:=["one", "other"]) fun _ _ _ _ _ _ us hl=>match us,hl with | [_,_],_=>rfl
 have F1:=fun_mk (st:=s_amount) l1 c1 k1
 have b1:=F1.binds (ps:=["top", "bottom"]) fun _ _ _ _ _ _ us hl=>match us,hl with | [_,_],_=>rfl
 have F2:=fun_mk (st:=s_plus) l2 c2 k2
 have b2:=F2.binds (ps:=["one", "other"]) fun _ _ _ _ _ _ us hl=>match us,hl with | [_,_],_=>rfl
 have F3:=fun_mk (st:=s_minus) l3 c3 k3
 have b3:=F3.binds (ps:=["one", "other"]) fun _ _ _ _ _ _ us hl=>match us,hl with | [_,_],_=>rfl
 have F4:=fun_mk (st:=s_below) l4 c4 k4
 have b4:=F4.binds (ps:=["one", "other"]) fun _ _ _ _ _ _ us hl=>match us,hl with | [_,_],_=>rfl
 have F5:=fun_mk (st:=s_direction) l5 c5 k5
 have b5:=F5.binds (ps:=["step"]) fun _ _ _ _ _ _ us hl=>match us,hl with | [_],_=>rfl
 have F6:=fun_mk (st:=s_folded_out) l6 c6 k6
 have b6:=F6.binds (ps:=["size", "place", "number"]) fun _ _ _ _ _ _ us hl=>match us,hl with | [_,_,_],_=>rfl
 have F7:=fun_mk (st:=s_image_at) l7 c7 k7
 have b7:=F7.binds (ps:=["width", "height", "point", "cell"]) fun _ _ _ _ _ _ us hl=>match us,hl with | [_,_,_,_],_=>rfl
 have F8:=fun_mk (st:=s_cells_within) l8 c8 k8
 have b8:=F8.binds (ps:=["most"]) fun _ _ _ _ _ _ us hl=>match us,hl with | [_],_=>rfl
 have F9:=fun_mk (st:=s_rim_points) l9 c9 k9
 have b9:=F9.binds (ps:=["width", "height"]) fun _ _ _ _ _ _ us hl=>match us,hl with | [_,_],_=>rfl
 have F10:=fun_mk (st:=s_things_in) l10 c10 k10
 have b10:=F10.binds (ps:=["width", "height", "people"]) fun _ _ _ _ _ _ us hl=>match us,hl with | [_,_,_],_=>rfl
 have F11:=fun_mk (st:=s_step_to) l11 c11 k11
 have b11:=F11.binds (ps:=["begin", "end"]) fun _ _ _ _ _ _ us hl=>match us,hl with | [_,_],_=>rfl
 have F12:=fun_mk (st:=s_length) l12 c12 k12
 have b12:=F12.binds (ps:=["step"]) fun _ _ _ _ _ _ us hl=>match us,hl with | [_],_=>rfl
 have F13:=fun_mk (st:=s_first_things) l13 c13 k13
 have b13:=F13.binds (ps:=["width", "height", "people", "one", "most"]) fun _ _ _ _ _ _ us hl=>match us,hl with | [_,_,_,_,_],_=>rfl
 have F14:=fun_mk (st:=s_cells) l14 c14 k14
 have b14:=F14.binds (ps:=["width", "height", "people", "one", "other", "most"]) fun _ _ _ _ _ _ us hl=>match us,hl with | [_,_,_,_,_,_],_=>rfl
 have F15:=fun_mk (st:=s_how_many) l15 c15 k15
 have b15:=F15.binds (ps:=["width", "height", "people", "one", "other", "most"]) fun _ _ _ _ _ _ us hl=>match us,hl with | [_,_,_,_,_,_],_=>rfl
 have F16:=fun_mk (st:=s_l_cell) l16 c16 k16
 have b16:=F16.binds (ps:=["_law_script", "_law_k"]) fun _ _ _ _ _ _ us hl=>match us,hl with | [_,_],_=>rfl
 have F17:=fun_mk (st:=s_l_numbers) l17 c17 k17
 have b17:=F17.binds (ps:=["_law_cell_here", "_law_many"]) fun _ _ _ _ _ _ us hl=>match us,hl with | [_,_],_=>rfl
 have F18:=fun_mk (st:=s_l_lowest) l18 c18 k18
 have b18:=F18.binds (ps:=["_law_top", "_law_bottom"]) fun _ _ _ _ _ _ us hl=>match us,hl with | [_,_],_=>rfl
 have F19:=fun_mk (st:=s_l_part) l19 c19 k19
 have b19:=F19.binds (ps:=["_law_size", "_law_one", "_law_other", "_law_most"]) fun _ _ _ _ _ _ us hl=>match us,hl with | [_,_,_,_],_=>rfl
 have F20:=fun_mk (st:=s_l_point) l20 c20 k20
 have b20:=F20.binds (ps:=["_law_cell_here", "_law_width", "_law_height", "_law_most"]) fun _ _ _ _ _ _ us hl=>match us,hl with | [_,_,_,_],_=>rfl
 have F21:=fun_mk (st:=s_l_people) l21 c21 k21
 have b21:=F21.binds (ps:=["_law_some", "_law_width", "_law_height", "_law_most"]) fun _ _ _ _ _ _ us hl=>match us,hl with | [_,_,_,_],_=>rfl
 have F22:=fun_mk (st:=s_l_drawn) l22 c22 k22
 have b22:=F22.binds (ps:=["_law_script"]) fun _ _ _ _ _ _ us hl=>match us,hl with | [_],_=>rfl
 have F23:=fun_mk (st:=s_l_seen) l23 c23 k23
 have b23:=F23.binds (ps:=["_law_rows"]) fun _ _ _ _ _ _ us hl=>match us,hl with | [_],_=>rfl
 have F24:=fun_mk (st:=s_l_back) l24 c24 k24
 have b24:=F24.binds (ps:=["_law_number"]) fun _ _ _ _ _ _ us hl=>match us,hl with | [_],_=>rfl
 have F25:=fun_mk (st:=s_law) l25 c25 k25
 refine⟨PySem.W.fnOf "law" "law" (defArgs s_law) (defBody s_law) (defScope s_law) .none kV25 dc25 pm25 an25 cd25 ct25,fun s v=>.of_eq rfl,fun base _ _=>?_⟩
 have g0:=ok_common_divisor (P:=l.prog) (w:=w) (mg:=mg) (base:=base) F0 (PySem.W.mg_none_of X G z_abs)
 have g1:=ok_amount (P:=l.prog) (w:=w) (mg:=mg) (base:=base) F1 g0 b0 k0 (PySem.W.mg_of X G a0)
 have g2:=ok_plus (P:=l.prog) (w:=w) (mg:=mg) (base:=base) F2 g1 b1 k1 (PySem.W.mg_of X G a1)
 have g3:=ok_minus (P:=l.prog) (w:=w) (mg:=mg) (base:=base) F3 g1 b1 k1 (PySem.W.mg_of X G a1)
 have g4:=ok_below (P:=l.prog) (w:=w) (mg:=mg) (base:=base) F4
 have g5:=ok_direction (P:=l.prog) (w:=w) (mg:=mg) (base:=base) F5 g0 b0 k0 (PySem.W.mg_of X G a0)
 have g6:=ok_folded_out (P:=l.prog) (w:=w) (mg:=mg) (base:=base) F6 g3 b3 k3 (PySem.W.mg_of X G a3) g2 b2 k2 (PySem.W.mg_of X G a2)
 have g7:=ok_image_at (P:=l.prog) (w:=w) (mg:=mg) (base:=base) F7 g6 b6 k6 (PySem.W.mg_of X G a6)
 have g8:=ok_cells_within (P:=l.prog) (w:=w) (mg:=mg) (base:=base) F8 (PySem.W.mg_none_of X G z_range) (PySem.W.mg_none_of X G z_abs)
 have g9:=ok_rim_points (P:=l.prog) (w:=w) (mg:=mg) (base:=base) F9 (PySem.W.mg_none_of X G z_range)
 have g10:=ok_things_in (P:=l.prog) (w:=w) (mg:=mg) (base:=base) F10 g9 b9 k9 (PySem.W.mg_of X G a9) (PySem.W.mg_none_of X G z_enumerate)
 have g11:=ok_step_to (P:=l.prog) (w:=w) (mg:=mg) (base:=base) F11 g3 b3 k3 (PySem.W.mg_of X G a3)
 have g12:=ok_length (P:=l.prog) (w:=w) (mg:=mg) (base:=base) F12 g2 b2 k2 (PySem.W.mg_of X G a2) (PySem.W.mg_none_of X G z_abs)
 have g13:=ok_first_things (P:=l.prog) (w:=w) (mg:=mg) (base:=base) F13 g10 b10 k10 (PySem.W.mg_of X G a10) g8 b8 k8 (PySem.W.mg_of X G a8) g11 b11 k11 (PySem.W.mg_of X G a11) g7 b7 k7 (PySem.W.mg_of X G a7) g5 b5 k5 (PySem.W.mg_of X G a5) g12 b12 k12 (PySem.W.mg_of X G a12) g4 b4 k4 (PySem.W.mg_of X G a4) (PySem.W.mg_of X G yg_NO_STEP) yb_NO_STEP
 have g14:=ok_cells (P:=l.prog) (w:=w) (mg:=mg) (base:=base) F14 g13 b13 k13 (PySem.W.mg_of X G a13) g8 b8 k8 (PySem.W.mg_of X G a8) g11 b11 k11 (PySem.W.mg_of X G a11) g7 b7 k7 (PySem.W.mg_of X G a7) g5 b5 k5 (PySem.W.mg_of X G a5) g12 b12 k12 (PySem.W.mg_of X G a12) (PySem.W.mg_of X G yg_NO_STEP) yb_NO_STEP
 have g15:=ok_how_many (P:=l.prog) (w:=w) (mg:=mg) (base:=base) F15 g14 b14 k14 (PySem.W.mg_of X G a14) (PySem.W.mg_none_of X G z_len)
 have g16:=ok_l_cell (P:=l.prog) (w:=w) (mg:=mg) (base:=base) F16
 have g17:=ok_l_numbers (P:=l.prog) (w:=w) (mg:=mg) (base:=base) F17 (PySem.W.mg_none_of X G z_abs) (PySem.W.mg_none_of X G z_range) (PySem.W.mg_none_of X G z_int)
 have g18:=ok_l_lowest (P:=l.prog) (w:=w) (mg:=mg) (base:=base) F18 (PySem.W.mg_none_of X G z_abs)
 have g19:=ok_l_part (P:=l.prog) (w:=w) (mg:=mg) (base:=base) F19 g18 b18 k18 (PySem.W.mg_of X G a18)
 have g20:=ok_l_point (P:=l.prog) (w:=w) (mg:=mg) (base:=base) F20 g17 b17 k17 (PySem.W.mg_of X G a17) g19 b19 k19 (PySem.W.mg_of X G a19)
 have g21:=ok_l_people (P:=l.prog) (w:=w) (mg:=mg) (base:=base) F21 g20 b20 k20 (PySem.W.mg_of X G a20)
 have g22:=ok_l_drawn (P:=l.prog) (w:=w) (mg:=mg) (base:=base) F22 g17 b17 k17 (PySem.W.mg_of X G a17) g16 b16 k16 (PySem.W.mg_of X G a16) g21 b21 k21 (PySem.W.mg_of X G a21) (PySem.W.mg_none_of X G z_len)
 have g23:=ok_l_seen (P:=l.prog) (w:=w) (mg:=mg) (base:=base) F23
 have g24:=ok_l_back (P:=l.prog) (w:=w) (mg:=mg) (base:=base) F24
 exact ok_law (P:=l.prog) (w:=w) (mg:=mg) (base:=base) F25 g22 b22 k22 (PySem.W.mg_of X G a22) g16 b16 k16 (PySem.W.mg_of X G a16) g14 b14 k14 (PySem.W.mg_of X G a14) g23 b23 k23 (PySem.W.mg_of X G a23) g24 b24 k24 (PySem.W.mg_of X G a24) g15 b15 k15 (PySem.W.mg_of X G a15) g18 b18 k18 (PySem.W.mg_of X G a18) (PySem.W.mg_none_of X G z_list) (PySem.W.mg_none_of X G z_sorted) (PySem.W.mg_none_of X G z_len) (PySem.W.mg_none_of X G z_dict)
theorem reps_ints {K:PySem.W.Frag}{H:Hp}:∀ns:List Int,Reps K H (ns.map D.int) (ns.map V.int)
 |[]=>Reps.nil
 |_::ns=>Reps.cons (rep_int.mpr rfl) (reps_ints ns)
theorem walk {l:PySem.W.OpenLaw}{q:Program}{loose:List Str}{XP:(Str->Option Value)->Heap->Prop}{YP:World->Heap->Prop}{d:DefRec}{K:Params->PySem.W.Frag}(hn:l.most=some 63)(hdf:d.params.defaults=[])(hT:∀ns:List Int,ns.length<=63->F_law [.lst (ns.map D.int)]=.ok (.im (.bl true)))(hY:∀(w:World) (h:Heap),YP w h->(K w.params).In h)
  (F:∀(w:World) (mg:Str->Option Value) (fa:Addr) (h:Heap),(K w.params).In h->h.Ns mainGlobals mg->mg d.name=some (.ref fa) ->
   ∃fd:FuncData,(∀(s:Shared) (u:Value),BindsTo s fd ⟨[u],[]⟩ [("_law_script", u)])/\∀base:Heap,(K w.params).In base->base.Ns mainGlobals mg->FnOk l.prog w (K w.params) mg base CX0 9 fa fd ["_law_script"] (spN (K w.params) F_law)) :
  PySem.W.WalkO q loose XP YP l.row.toRowW d [] (fun f vs=>PySem.call f vs) :=
 L2.walk_of (n:=63) (k:=9) (x := "_law_script") (CX:=fun w=>CX0) (sp:=fun w=>spN (K w.params) F_law) hn (by decide) hdf ⟨rfl,by decide,by decide⟩ hY F
  (fun w H a ns hl _ hS=>⟨H,[.lst (ns.map D.int)],.im (.bl true),Same.refl _,Reps.cons (rep_lst.mpr ⟨a,ns.map V.int,rfl,hS,reps_ints ns⟩) Reps.nil,hT ns hl,fun v Hf' H' _ r=>(rep_bl (K:=K w.params) (H:=Hf')).mp r⟩) fun _ _ _ _ _ z=>z
end Law
set_option maxRecDepth 100000
set_option maxHeartbeats 4000000
set_option linter.all false
namespace Law
open PySem L2 DL
theorem ten_pow {k:Nat}(h:k<=900):10 ^ k<2 ^ 4000:=by
 have h1:(10:Nat) ^ k<=16 ^ k:=Nat.pow_le_pow_left (by decide) k
 have h2:(16:Nat) ^ k=2 ^ (4*k):=by rw[show(16:Nat)=2 ^ 4 from rfl,<-Nat.pow_mul]
 have h3:(2:Nat) ^ (4*k)<2 ^ 4000:=Nat.pow_lt_pow_right (by decide) (by lia)
 lia
theorem sm_of {x:Int}{k:Nat}(h:x.natAbs<=10 ^ k)(hk:k<=900):sm x=true:=sm_iff.mpr (Nat.lt_of_le_of_lt h (ten_pow hk))
theorem mul_le' {x y:Int}{j k:Nat}(hx:x.natAbs<=10 ^ j)(hy:y.natAbs<=10 ^ k):(x*y).natAbs<=10 ^ (j+k):=by
 rw[Int.natAbs_mul,Nat.pow_add]
 exact Nat.mul_le_mul hx hy
theorem add_le' {x y:Int}{k:Nat}(hx:x.natAbs<=10 ^ k)(hy:y.natAbs<=10 ^ k):(x+y).natAbs<=10 ^ (k+1):=by
 have:=Int.natAbs_add_le x y
 rw[Nat.pow_succ]
 lia
theorem sub_le' {x y:Int}{k:Nat}(hx:x.natAbs<=10 ^ k)(hy:y.natAbs<=10 ^ k):(x - y).natAbs<=10 ^ (k+1):=by
 have:=Int.natAbs_sub_le x y
 rw[Nat.pow_succ]
 lia
theorem range0 (n:Nat):rangeD 0 n=(List.range n).map fun(k:Nat)=>D.int (k:Int):=by
 unfold rangeD;simp
theorem iR1 {fs:DSt->M (List D)}{sd:DSt}{n:Nat}(h:fs sd=.ok [.int (n:Int)])(hn:n<=1000):iRange1 fs sd=.ok ((List.range n).map fun(k:Nat)=>D.int (k:Int)):=by
 simp[iRange1,h,range0]
 lia
theorem few_of {ds:List D}(h:ds.length<=1000000):few ds=true:=decide_eq_true h
theorem fn1 (m:Nat)(f:DSt->M O)(a0:D):fnD 1 m f [a0]=fin' (f ([some (S.im a0)]++List.replicate m none)):=rfl
theorem fn2 (m:Nat)(f:DSt->M O)(a0 a1:D):fnD 2 m f [a0,a1]=fin' (f ([some (S.im a0),some (S.im a1)]++List.replicate m none)):=rfl
theorem fn3 (m:Nat)(f:DSt->M O)(a0 a1 a2:D):fnD 3 m f [a0,a1,a2]=fin' (f ([some (S.im a0),some (S.im a1),some (S.im a2)]++List.replicate m none)):=rfl
theorem fn4 (m:Nat)(f:DSt->M O)(a0 a1 a2 a3:D):fnD 4 m f [a0,a1,a2,a3]=fin' (f ([some (S.im a0),some (S.im a1),some (S.im a2),some (S.im a3)]++List.replicate m none)):=rfl
theorem fn5 (m:Nat)(f:DSt->M O)(a0 a1 a2 a3 a4:D):fnD 5 m f [a0,a1,a2,a3,a4]=fin' (f ([some (S.im a0),some (S.im a1),some (S.im a2),some (S.im a3),some (S.im a4)]++List.replicate m none)):=rfl
theorem sSeq_nx {f g:DSt->M O}{sd sd':DSt}(h:f sd=.ok (.nx sd')):sSeq f g sd=g sd':=by unfold sSeq;rw[h];rfl
theorem sFor_ok {fi:DSt->M (List D)}{g:D->DSt->M DSt}{f:DSt->M O}{sd:DSt}{ds:List D}(h:fi sd=.ok ds):sFor fi g f sd=loopD g f ds sd:=by unfold sFor;rw[h];rfl
theorem go {f g:DSt->M O}{sd sd':DSt}{r:M O}(h:f sd=.ok (.nx sd'))(k:g sd'=r):sSeq f g sd=r:=(sSeq_nx h).trans k
theorem fin_of {r:M O}{s:S}(h:r=.ok (.rt s)):fin' r=.ok s:=by rw[h];rfl
theorem own_nil (i:Nat)(sd:DSt):sOwn i (fLst aNil) sd=.ok (.nx (sd.set i (some (.ow [])))):=by
 unfold sOwn fLst aNil
 rw[M.bind_ok,few_of (Nat.zero_le _),if_pos rfl,M.bind_ok]
theorem p4000 {n:Nat}(h:n<=10 ^ 30):n<2 ^ 4000:=by
 have h1:(10:Nat) ^ 30<=16 ^ 30:=Nat.pow_le_pow_left (by decide) 30
 have h2:(16:Nat) ^ 30=2 ^ 120:=by rw[show(16:Nat)=2 ^ 4 from rfl,<-Nat.pow_mul]
 have h3:(2:Nat) ^ 120<2 ^ 4000:=Nat.pow_lt_pow_right (by decide) (by decide)
 lia
theorem sm30 {x:Int}(h:-1000000000000000000000000000000<=x)(h':x<=1000000000000000000000000000000):sm x=true:=sm_iff.mpr (p4000 (by have:(10:Nat) ^ 30=1000000000000000000000000000000:=rfl;lia))
theorem gT {i j:Int}(hi:sm i=true)(hj:sm j=true):gTimes (.int i) (.int j)=.ok (.int (i*j)):=by
 show(if(sm i&&sm j)=true then _ else _)=_
 rw[hi,hj];rfl
theorem gFd {i j:Int}(hj:0<j)(hs:sm j=true):gFdiv (.int i) (.int j)=.ok (.int (i / j)):=by
 show(if(j != 0&&sm j)=true then M.ok (D.int (i.fdiv j)) else _)=_
 have:(j != 0)=true:=by simp;lia
 rw[this,hs,Int.fdiv_eq_ediv_of_nonneg i (by lia)];rfl
theorem gM {i j:Int}(hj:0<j):gMod (.int i) (.int j)=.ok (.int (i % j)):=by
 show(if(j != 0)=true then M.ok (D.int (i.fmod j)) else _)=_
 have:(j != 0)=true:=by simp;lia
 rw[this,Int.fmod_eq_emod_of_nonneg i (by lia)];rfl
theorem mul_bd {a b:Int}{A B:Int}(ha:0<=a)(ha':a<=A)(hb:0<=b)(hb':b<=B):0<=a*b/\a*b<=A*B:=⟨Int.mul_nonneg ha hb,Int.mul_le_mul ha' hb' hb (by lia)⟩
theorem set_ok {i:Nat}{f:DSt->M D}{sd:DSt}{d:D}(h:f sd=.ok d):sSet i f sd=.ok (.nx (sd.set i (some (.im d)))):=by unfold sSet;rw[h];rfl
theorem call_ok {F:List D->M S}{fs:DSt->M (List D)}{sd:DSt}{ds:List D}{s:S}{d:D}(h1:fs sd=.ok ds)(h2:F ds=.ok s)(h3:s.toD=.ok d):eCall F fs sd=.ok d:=by
 unfold eCall;rw[h1,M.bind_ok,h2];exact h3
theorem a1 {fa:DSt->M D}{sd:DSt}{d:D}(h:fa sd=.ok d):aCons fa aNil sd=.ok [d]:=by unfold aCons aNil;rw[h];rfl
theorem aC {fa:DSt->M D}{fr:DSt->M (List D)}{sd:DSt}{d:D}{ds:List D}(h:fa sd=.ok d)(h2:fr sd=.ok ds):aCons fa fr sd=.ok (d::ds):=by unfold aCons;rw[h,M.bind_ok,h2];rfl
theorem ret_ok {f:DSt->M D}{sd:DSt}{d:D}(h:f sd=.ok d):sRet f sd=.ok (.rt (.im d)):=by unfold sRet;rw[h];rfl
theorem cb_ok {g:List D->M D}{fs:DSt->M (List D)}{sd:DSt}{ds:List D}{r:M D}(h1:fs sd=.ok ds)(h2:g ds=r):eCB g fs sd=r:=by unfold eCB;rw[h1];exact h2
theorem loop_nx {g:D->DSt->M DSt}{f:DSt->M O}{d:D}{r:List D}{sd sd1 sd2:DSt}(h1:g d sd=.ok sd1)(h2:f sd1=.ok (.nx sd2)):loopD g f (d::r) sd=loopD g f r sd2:=by
 simp only[loopD,h1,h2,M.bind_ok]
theorem atI0 {α:Type}(x:α)(r:List α):atI (x::r) 0=some x:=by
 have:=atI_nat (xs:=x::r) (j:=0) (v:=x) rfl
 exact this
theorem atI1 {α:Type}(x y:α)(r:List α):atI (x::y::r) 1=some y:=by
 have:=atI_nat (xs:=x::y::r) (j:=1) (v:=y) rfl
 exact this
theorem smI {x:Int}(h:-1000000000<=x)(h':x<=1000000000):sm x=true:=sm30 (by lia) (by lia)
theorem if_skip {c:DSt->M Bool}{f:DSt->M O}{sd:DSt}(h:c sd=.ok false):sIf c f sNil sd=.ok (.nx sd):=by unfold sIf;rw[h];rfl
theorem tB_b {f:DSt->M D}{sd:DSt}{b:Bool}(h:f sd=.ok (.bl b)):DL.tB f sd=.ok b:=by unfold DL.tB;rw[h];rfl
theorem op_ok {g:D->D->M D}{fa fb:DSt->M D}{sd:DSt}{x y:D}{r:M D}(h1:fa sd=.ok x)(h2:fb sd=.ok y)(h3:g x y=r):eOp g fa fb sd=r:=by unfold eOp;rw[h1,M.bind_ok,h2,M.bind_ok,h3]
theorem if_take {c:DSt->M Bool}{f g:DSt->M O}{sd:DSt}{r:M O}(h:c sd=.ok true)(k:f sd=r):sIf c f g sd=r:=by unfold sIf;rw[h];exact k
theorem if_else {c:DSt->M Bool}{f g:DSt->M O}{sd:DSt}{r:M O}(h:c sd=.ok false)(k:g sd=r):sIf c f g sd=r:=by unfold sIf;rw[h];exact k
theorem tO_t {f g:DSt->M Bool}{sd:DSt}(h1:f sd=.ok true):DL.tO f g sd=.ok true:=by unfold DL.tO;rw[h1];rfl
theorem tO_f {f g:DSt->M Bool}{sd:DSt}{r:M Bool}(h1:f sd=.ok false)(h2:g sd=r):DL.tO f g sd=r:=by unfold DL.tO;rw[h1];exact h2
theorem eif_t {c:DSt->M Bool}{f g:DSt->M D}{sd:DSt}{r:M D}(h:c sd=.ok true)(k:f sd=r):eIf c f g sd=r:=by unfold eIf;rw[h];exact k
theorem eif_f {c:DSt->M Bool}{f g:DSt->M D}{sd:DSt}{r:M D}(h:c sd=.ok false)(k:g sd=r):eIf c f g sd=r:=by unfold eIf;rw[h];exact k
theorem atI2 {α:Type}(x y z:α)(r:List α):atI (x::y::z::r) 2=some z:=atI_nat (xs:=x::y::z::r) (j:=2) (v:=z) rfl
theorem atI3 {α:Type}(x y z u:α)(r:List α):atI (x::y::z::u::r) 3=some u:=atI_nat (xs:=x::y::z::u::r) (j:=3) (v:=u) rfl
end Law
set_option maxRecDepth 100000
set_option maxHeartbeats 4000000
set_option linter.all false
namespace Law
open PySem L2 DL
def nbBody:DSt->M O:=(sSeq (sSet 3 (eOp gMod (eOp gPlus (eOp gPlus (eOp gTimes (eVar 3) (eOp gPlus (eOp gMod (eVar 3) (eC (.int 65521))) (eC (.int 40487)))) (eOp gTimes (eC (.int 7)) (eVar 5))) (eC (.int 5))) (eC (.int 1999999973))))
   (sSeq (sApp 2 (eOp gIx (eLst (aCons (eVar 3) (aCons (eOp gMod (eVar 4) (eC (.int 1000000))) aNil))) (eCB bInt (aCons (eOp gGt (eVar 4) (eC (.int 0))) aNil))))
   (sSet 4 (eOp gFdiv (eVar 4) (eC (.int 1000000))))))
def nbOk (d:Int):Prop:=0<=d/\d<1999999973
theorem nb_turn (s0 s1:Option S)(ds:List D)(hd:ds.length<=1000)(N R K:Int)(hN:0<=N)(hN':N<1999999973)(hK:0<=K)(hK':K<=1000) :
  ∃d N':Int,0<=N'/\N'<1999999973/\nbOk d/\nbBody [s0,s1,some (.ow ds),some (.im (.int N)),some (.im (.int R)),some (.im (.int K))] =
   .ok (.nx [s0,s1,some (.ow (ds++[.int d])),some (.im (.int N')),some (.im (.int (R / 1000000))),some (.im (.int K))]):=by
 have q1:0<=N % 65521:=Int.emod_nonneg _ (by decide)
 have q2:N % 65521<65521:=Int.emod_lt_of_pos _ (by decide)
 have g1:=gM (i:=N) (j:=65521) (by decide)
 have g2:=gT (i:=N) (j:=N % 65521+40487) (sm30 (by lia) (by lia)) (sm30 (by lia) (by lia))
 have g3:=gT (i:=7) (j:=K) (sm30 (by lia) (by lia)) (sm30 (by lia) (by lia))
 have g4:=gM (i:=N*(N % 65521+40487)+7*K+5) (j:=1999999973) (by decide)
 have e1:sSet 3 (eOp gMod (eOp gPlus (eOp gPlus (eOp gTimes (eVar 3) (eOp gPlus (eOp gMod (eVar 3) (eC (.int 65521))) (eC (.int 40487)))) (eOp gTimes (eC (.int 7)) (eVar 5))) (eC (.int 5))) (eC (.int 1999999973)))
   [s0,s1,some (.ow ds),some (.im (.int N)),some (.im (.int R)),some (.im (.int K))] =
   .ok (.nx [s0,s1,some (.ow ds),some (.im (.int ((N*(N % 65521+40487)+7*K+5) % 1999999973))),some (.im (.int R)),some (.im (.int K))]):=by
  simp[sSet,eOp,eVar,eC,g1,gPlus,g2,g3,g4]
 have b1:0<=(N*(N % 65521+40487)+7*K+5) % 1999999973:=Int.emod_nonneg _ (by decide)
 have b2:(N*(N % 65521+40487)+7*K+5) % 1999999973<1999999973:=Int.emod_lt_of_pos _ (by decide)
 generalize (N*(N % 65521+40487)+7*K+5) % 1999999973=N' at e1 b1 b2
 have f1:few ds=true:=few_of (by lia)
 have g5:=gM (i:=R) (j:=1000000) (by decide)
 have g8:=gFd (i:=R) (j:=1000000) (by decide) (sm30 (by decide) (by decide))
 have f2:few [D.int N',D.int (R % 1000000)]=true:=few_of (by simp)
 by_cases hR:R > 0
 ·have p1:0<=R % 1000000:=Int.emod_nonneg _ (by decide)
  have p2:R % 1000000<1000000:=Int.emod_lt_of_pos _ (by decide)
  refine⟨R % 1000000,N',b1,b2,⟨p1,by lia⟩,go e1 ?_⟩
  simp[sSeq,sApp,eOp,eLst,aCons,aNil,eVar,eC,g5,f2,eCB,gGt,gI0,hR,bInt,gIx,atI1,f1,sSet,g8]
 ·refine⟨N',N',b1,b2,⟨b1,b2⟩,go e1 ?_⟩
  simp[sSeq,sApp,eOp,eLst,aCons,aNil,eVar,eC,g5,f2,eCB,gGt,gI0,hR,bInt,gIx,atI0,f1,sSet,g8]
theorem nb_loop (s0 s1:Option S):∀(ks:List Nat) (ds:List Int) (N R:Int) (v:Option S),ds.length+ks.length<=1000->(∀k∈ks,k<=1000)->0<=N->N<1999999973->(∀d∈ds,nbOk d) ->
  ∃(es:List Int) (N' R':Int) (v':Option S),es.length=ds.length+ks.length/\(∀d∈es,nbOk d)/\loopD (gNm 5) nbBody (ks.map fun(k:Nat)=>D.int (k:Int)) [s0,s1,some (.ow (ds.map D.int)),some (.im (.int N)),some (.im (.int R)),v] =
   .ok (.nx [s0,s1,some (.ow (es.map D.int)),some (.im (.int N')),some (.im (.int R')),v'])
 |[],ds,N,R,v,_,_,_,_,hd=>⟨ds,N,R,v,by simp,hd,by simp[loopD]⟩
 |k::ks,ds,N,R,v,h,hk,hN,hN',hd=>by
  rw[List.length_cons] at h
  have hk0:=hk k List.mem_cons_self
  obtain⟨d,N1,h1,h2,h3,e⟩:=nb_turn s0 s1 (ds.map D.int) (by simp;lia) N R (k:Int) hN hN' (by lia) (by lia)
  obtain⟨es,N',R',v',hl,ho,ih⟩:=nb_loop s0 s1 ks (ds++[d]) N1 (R / 1000000) (some (.im (.int (k:Int)))) (by simp;lia) (fun k hk'=>hk k (List.mem_cons_of_mem _ hk')) h1 h2 (fun d' hd'=>by
   rcases List.mem_append.mp hd' with q|q
   ·exact hd d' q
   ·have:d'=d:=by simpa using q
    rw[this];exact h3)
  refine⟨es,N',R',v',by rw[hl];simp;lia,ho,?_⟩
  rw[List.map_append,List.map_cons,List.map_nil] at ih
  rw[<-ih]
  simp[loopD,gNm,e]
theorem f_numbers (c:Int)(n:Nat)(hn:n<=1000):∃es:List Int,es.length=n/\(∀d∈es,nbOk d)/\F_l_numbers [.int c,.int (n:Int)]=.ok (.ow (es.map D.int)):=by
 have g1:=gM (i:=c) (j:=1999999973) (by decide)
 have q1:0<=c % 1999999973:=Int.emod_nonneg _ (by decide)
 have q2:c % 1999999973<1999999973:=Int.emod_lt_of_pos _ (by decide)
 have g2:=gT (i:=c % 1999999973+31) (j:=765432101) (sm30 (by lia) (by lia)) (sm30 (by lia) (by lia))
 have g3:=gM (i:=(c % 1999999973+31)*765432101) (j:=1999999973) (by decide)
 have g4:gPow (.int 10) (.int 18)=.ok (.int 1000000000000000000):=rfl
 have b1:0<=(c % 1999999973+31)*765432101 % 1999999973:=Int.emod_nonneg _ (by decide)
 have b2:(c % 1999999973+31)*765432101 % 1999999973<1999999973:=Int.emod_lt_of_pos _ (by decide)
 have e2:sSet 3 (eOp gMod (eOp gTimes (eOp gPlus (eOp gMod (eVar 0) (eC (.int 1999999973))) (eC (.int 31))) (eC (.int 765432101))) (eC (.int 1999999973))) [some (.im (.int c)),some (.im (.int (n:Int))),some (.ow []),none,none,none] =
   .ok (.nx [some (.im (.int c)),some (.im (.int (n:Int))),some (.ow []),some (.im (.int ((c % 1999999973+31)*765432101 % 1999999973))),none,none]):=by
  simp[sSet,eOp,eVar,eC,g1,gPlus,g2,g3]
 generalize (c % 1999999973+31)*765432101 % 1999999973=N at e2 b1 b2
 obtain⟨R,e4⟩:∃R:Int,(sIf (DL.tO (DL.tB (eOp gLt (eVar 0) (eC (.int 0)))) (DL.tB (eOp gGe (eVar 0) (eOp gPow (eC (.int 10)) (eC (.int 18)))))) (sSet 4 (eCB bAbs (aCons (eVar 0) aNil))) sNil) [some (.im (.int c)),some (.im (.int (n:Int))),some (.ow []),some (.im (.int N)),some (.im (.int 0)),none] =
   .ok (.nx [some (.im (.int c)),some (.im (.int (n:Int))),some (.ow []),some (.im (.int N)),some (.im (.int R)),none]):=by
  by_cases h1:c<0
  ·exact⟨-c,by simp[sIf,DL.tO,DL.tB,eOp,eVar,eC,gLt,gI0,h1,asB,sSet,eCB,bAbs,aCons,aNil]⟩
  ·by_cases h2:1000000000000000000<=c
   ·exact⟨c,by simp[sIf,DL.tO,DL.tB,eOp,eVar,eC,gLt,gGe,gI0,h1,h2,g4,asB,sSet,eCB,bAbs,aCons,aNil]⟩
   ·exact⟨0,by simp[sIf,DL.tO,DL.tB,eOp,eVar,eC,gLt,gGe,gI0,h1,h2,g4,asB,sSet,eCB,bAbs,aCons,aNil,sNil]⟩
 obtain⟨es,N',R',v',hl,ho,e5⟩:=nb_loop (some (.im (.int c))) (some (.im (.int (n:Int)))) (List.range n) [] N R none (by simp;lia) (fun k hk=>by have:=List.mem_range.mp hk;lia) b1 b2 (fun d hd=>by simp at hd)
 refine⟨es,by simpa using hl,ho,?_⟩
 have r1:∀s0 s,iRange1 (aCons (eVar 1) aNil) (s0::some (.im (.int (n:Int)))::s)=.ok ((List.range n).map fun(k:Nat)=>D.int (k:Int)):=fun s0 s=>iR1 (by simp[aCons,aNil,eVar]) hn
 exact(fn2 _ _ _ _).trans (fin_of (go (own_nil 2 _) (go e2 (go rfl (go e4 (go ((sFor_ok (r1 _ _)).trans e5) rfl))))))
end Law
set_option maxRecDepth 100000
set_option maxHeartbeats 4000000
set_option linter.all false
namespace Law
open PySem L2 DL
theorem tup2 {fa fb:DSt->M D}{sd:DSt}{a b:D}(h1:fa sd=.ok a)(h2:fb sd=.ok b):eTup (aCons fa (aCons fb aNil)) sd=.ok (.tup [a,b]):=by
 unfold eTup;rw[aC h1 (a1 h2)];rfl
theorem lst_of {fs:DSt->M (List D)}{sd:DSt}{ds:List D}(h:fs sd=.ok ds)(hf:few ds=true):eLst fs sd=.ok (.lst ds):=by
 unfold eLst
 rw[h,M.bind_ok,if_pos hf]
theorem gEq_b {x y:D}(h:x.dep<=60):gEq x y=.ok (.bl (D.eq x y)):=if_pos h
theorem gNe_b {x y:D}(h:x.dep<=60):gNe x y=.ok (.bl (!D.eq x y)):=if_pos h
theorem eq_int (a b:Int):gEq (.int a) (.int b)=.ok (.bl (a==b)):=by rw[gEq_b (by simp[D.dep])];simp only[D.eq]
theorem deps_le {n:Nat}:∀{l:List D},(∀d∈l,d.dep<=n)->D.deps l<=n
 |[],_=>by simp[D.deps]
 |a::r,h=>by
  simp only[D.deps]
  have:=h a (by simp)
  have:=deps_le (l:=r) fun d hd=>h d (by simp[hd])
  lia
theorem app_ok {i:Nat}{f:DSt->M D}{sd:DSt}{ds:List D}{d:D}(h:sd[i]?=some (some (.ow ds)))(hf:f sd=.ok d)(hl:ds.length<=1000):sApp i f sd=.ok (.nx (sd.set i (some (.ow (ds++[d]))))):=by
 unfold sApp
 rw[h]
 dsimp only
 rw[hf,M.bind_ok,few_of (by lia),if_pos rfl]
theorem seq_l {f:DSt->M D}{sd:DSt}{ds:List D}(h:f sd=.ok (.lst ds)):iSeq f sd=.ok ds:=by
 unfold iSeq
 rw[h]
 rfl
theorem mapQ {α:Type}{gt:D->DSt->M DSt}{fe:DSt->M D}{sd0:DSt}(e g:α->D):∀l:List α,(∀a∈l,∃sd1,gt (e a) sd0=.ok sd1/\fe sd1=.ok (g a))->mapD gt fe sd0 (l.map e)=.ok (l.map g)
 |[],_=>rfl
 |a::l,h=>by
  obtain⟨sd1,h1,h2⟩:=h a (by simp)
  rw[List.map_cons,List.map_cons]
  simp only[mapD,h1,h2,mapQ e g l fun b hb=>h b (by simp[hb])]
theorem plus_l {xs ys:List D}(h:xs.length+ys.length<=1000):gPlus (.lst xs) (.lst ys)=.ok (.lst (xs++ys)):=by
 show(if few (xs++ys) then M.ok (D.lst (xs++ys)) else .bad)=_
 rw[few_of (by rw[List.length_append];lia),if_pos rfl]
theorem gcd_step {g l:Int}(hg:0<=g)(hl:0<l):Int.gcd l (g % l)=Int.gcd g l:=by
 obtain⟨g',rfl⟩:=Int.eq_ofNat_of_zero_le hg
 obtain⟨l',rfl⟩:=Int.eq_ofNat_of_zero_le (Int.le_of_lt hl)
 rw[<-Int.natCast_emod]
 simp only[Int.gcd,Int.natAbs_natCast]
 rw[Nat.gcd_comm l',<-Nat.gcd_rec,Nat.gcd_comm]
theorem gcd_zero' {g:Int}(hg:0<=g):((Int.gcd g 0:Nat):Int)=g:=by
 rw[Int.gcd_zero_right];lia
theorem loop_cd (x y:Option S):∀(n:Nat) (g l:Int) (r:Option S),0<=g->0<=l->l.toNat<n ->
  ∃r',whileD (DL.tB (eOp gNe (eVar 3) (eC (.int 0)))) (sSeq (sSet 4 (eOp gMod (eVar 2) (eVar 3))) (sSeq (sSet 2 (eVar 3)) (sSet 3 (eVar 4)))) n [x,y,some (.im (.int g)),some (.im (.int l)),r] =
   .ok (.nx [x,y,some (.im (.int (Int.gcd g l:Nat))),some (.im (.int 0)),r'])
 |0,_,_,_,_,_,h=>by lia
 |n+1,g,l,r,hg,hl,h=>by
  by_cases hz:l=0
  ·subst hz
   refine⟨r,?_⟩
   simp[whileD,DL.tB,eOp,eVar,eC,gNe,D.dep,D.eq,asB,gcd_zero' hg]
   lia
  ·have hp:0<l:=by lia
   have hm0:0<=g % l:=Int.emod_nonneg g (by lia)
   have hm1:g % l<l:=Int.emod_lt_of_pos g hp
   obtain⟨r',e⟩:=loop_cd x y n l (g % l) (some (.im (.int (g % l)))) hl hm0 (by lia)
   refine⟨r',?_⟩
   rw[gcd_step hg hp] at e
   rw[<-e]
   simp[whileD,DL.tB,eOp,eVar,eC,gNe,D.dep,D.eq,asB,sSeq,sSet,gM hp,hz]
theorem ab (a:Int):(if a<0 then -a else a)=(a.natAbs:Int):=by split<;>lia
theorem abs_ok (a:Int):bAbs [.int a]=.ok (.int (a.natAbs:Int)):=by
 show M.ok (D.int (if a<0 then -a else a))=_
 rw[ab]
theorem f_cd (a b:Int):F_common_divisor [.int a,.int b]=.ok (.im (.int (Int.gcd a b:Nat))):=by
 obtain⟨r',e⟩:=loop_cd (some (.im (.int a))) (some (.im (.int b))) (b.natAbs+1) a.natAbs b.natAbs none (by lia) (by lia) (by lia)
 have e2:=sWhile_eq (c:=DL.tB (eOp gNe (eVar 3) (eC (.int 0)))) (f:=sSeq (sSet 4 (eOp gMod (eVar 2) (eVar 3))) (sSeq (sSet 2 (eVar 3)) (sSet 3 (eVar 4)))) (n:=b.natAbs+1) (sd:=[some (.im (.int a)),some (.im (.int b)),some (.im (.int a.natAbs)),some (.im (.int b.natAbs)),none]) (by rw[e];simp)
 rw[e] at e2
 refine(fn2 _ _ _ _).trans (fin_of (go (set_ok (cb_ok (a1 rfl) (abs_ok a))) (go (set_ok (cb_ok (a1 rfl) (abs_ok b))) (go e2 (ret_ok ?_)))))
 show M.ok (D.int ((Int.gcd (a.natAbs:Int) (b.natAbs:Int):Nat):Int))=_
 simp[Int.gcd]
def nD (p q:Int):D:=.tup [.int p,.int q]
def low (t b:Int):D:=nD (t / (Int.gcd t b:Nat)) (b / (Int.gcd t b:Nat))
theorem gcd_pos {t b:Int}(hb:b≠0\/t≠0):(0:Int)<(Int.gcd t b:Nat):=by
 have:0<Int.gcd t b:=Nat.pos_of_ne_zero fun z=>by
  have:=Int.gcd_eq_zero_iff.mp z
  lia
 lia
theorem ix_ok {fa fb:DSt->M D}{sd:DSt}{ds:List D}{i:Int}{d:D}(h:fa sd=.ok (.lst ds))(h2:fb sd=.ok (.int i))(e:atI ds i=some d):eOp gIx fa fb sd=.ok d:=by
 refine op_ok h h2 ?_
 show(match atI ds i with|some d=>M.ok d|none=>.bad)=_
 rw[e]
theorem ixt_ok {fa fb:DSt->M D}{sd:DSt}{ds:List D}{i:Int}{d:D}(h:fa sd=.ok (.tup ds))(h2:fb sd=.ok (.int i))(e:atI ds i=some d):eOp gIx fa fb sd=.ok d:=by
 refine op_ok h h2 ?_
 show(match atI ds i with|some d=>M.ok d|none=>.bad)=_
 rw[e]
theorem new_ok {f:DSt->M (List D)}{sd:DSt}{ds:List D}(h:f sd=.ok ds):eNew f sd=.ok (.lst ds):=by
 unfold eNew;rw[h];rfl
theorem comp_ok {fi:DSt->M (List D)}{n0:Nat}{caps:List Nat}{gt:D->DSt->M DSt}{fe:DSt->M D}{sd:DSt}{ds:List D}{r:M (List D)}(h:fi sd=.ok ds)(hf:ds.length<=1000)(hr:mapD gt fe (sdC n0 caps sd) ds=r):fComp fi n0 caps gt fe sd=r:=by
 unfold fComp
 rw[h,M.bind_ok,few_of (by lia),if_pos rfl,hr]
theorem view_ok {i:Nat}{f:DSt->M Bool}{sd:DSt}{b:Bool}(h:f (frz i sd)=.ok b):tView i f sd=.ok b:=by
 unfold tView
 rw[h]
theorem len_ok {ds:List D}:bLen [.lst ds]=.ok (.int (ds.length:Int)):=rfl
theorem dput_ok {i:Nat}{fk fv:DSt->M D}{sd:DSt}{kv:List (List Key×D)}{k v:D}{t:S}(h:sd[i]?=some (some (.od kv)))(hv:fv sd=.ok v)(hk:fk sd=.ok k)(e:dput (some (some (.od kv))) k v=some t):DL.sDPut i fk fv sd=.ok (.nx (sd.set i (some t))):=by
 unfold DL.sDPut
 rw[h]
 show(if true=true then _ else _)=_
 rw[if_pos rfl,hv,M.bind_ok,hk,M.bind_ok,e]
theorem nodup_map {α β:Type}{f:α->β}:∀{l:List α},l.Nodup->(∀a∈l,∀b∈l,f a=f b->a=b)->(l.map f).Nodup
 |[],_,_=>List.nodup_nil
 |a::l,h,hi=>by
  rw[List.nodup_cons] at h
  rw[List.map_cons,List.nodup_cons]
  refine⟨fun hm=>?_,nodup_map h.2 fun x hx y hy=>hi x (List.mem_cons_of_mem _ hx) y (List.mem_cons_of_mem _ hy)⟩
  obtain⟨b,hb,e⟩:=List.mem_map.mp hm
  have:=hi b (List.mem_cons_of_mem _ hb) a List.mem_cons_self e
  exact h.1 (this▸hb)
end Law
set_option maxRecDepth 100000
set_option maxHeartbeats 4000000
set_option linter.all false
namespace Law
open PySem L2 DL
theorem m4 (a b c d:Int):a*b*(c*d)=a*c*(b*d):=by rw[Int.mul_assoc,Int.mul_assoc,Int.mul_left_comm b]
theorem low_spec {t b:Int}(hb:0<b):∃p q,low t b=nD p q/\0<q/\p*b=t*q/\Int.gcd p q=1/\p.natAbs<=t.natAbs/\q<=b:=by
 obtain⟨u,eu⟩:((Int.gcd t b:Nat):Int) ∣ t:=Int.gcd_dvd_left t b
 obtain⟨v,ev⟩:((Int.gcd t b:Nat):Int) ∣ b:=Int.gcd_dvd_right t b
 have gp:=gcd_pos (t:=t) (b:=b) (by lia)
 have hg:Int.gcd u v=1:=by
  have h1:Int.gcd ((Int.gcd t b:Nat)*u) ((Int.gcd t b:Nat)*v)=Int.gcd t b:=by rw[<-eu,<-ev]
  rw[Int.gcd_mul_left,Int.natAbs_natCast] at h1
  have h0:0<Int.gcd t b:=by lia
  exact Nat.eq_of_mul_eq_mul_left h0 (by rw[h1,Nat.mul_one])
 refine⟨t / (Int.gcd t b:Nat),b / (Int.gcd t b:Nat),rfl,?_⟩
 generalize ((Int.gcd t b:Nat):Int)=g at eu ev gp ⊢
 rw[eu,ev,Int.mul_ediv_cancel_left _ (by lia),Int.mul_ediv_cancel_left _ (by lia)]
 have v1:0<v:=by
  rcases Int.lt_or_le 0 v with h|h
  ·exact h
  ·have:=Int.mul_nonpos_of_nonneg_of_nonpos (Int.le_of_lt gp) h;lia
 refine⟨v1,by rw[Int.mul_left_comm,Int.mul_assoc],hg,?_,?_⟩
 ·rw[Int.natAbs_mul]
  exact Nat.le_mul_of_pos_left _ (by lia)
 ·have:=Int.mul_le_mul_of_nonneg_right (show(1:Int)<=g by lia) (Int.le_of_lt v1)
  lia
theorem frac_uniq {p q p' q':Int}(hq:0<q)(hq':0<q')(c:Int.gcd p q=1)(c':Int.gcd p' q'=1)(e:p*q'=p'*q):p=p'/\q=q':=by
 have half:∀{p q p' q':Int},Int.gcd p q=1->p*q'=p'*q->q ∣ q':=fun {p q p' q'} c e=>by
  have:q ∣ p*q':=by rw[e];exact Int.dvd_mul_left _ _
  have c2:Int.gcd q p=1:=by rw[Int.gcd_comm];exact c
  have h1:q.natAbs ∣ p.natAbs*q'.natAbs:=by rw[<-Int.natAbs_mul];exact Int.natAbs_dvd_natAbs.mpr this
  have h2:q.natAbs ∣ q'.natAbs:=Nat.Coprime.dvd_of_dvd_mul_left (show Nat.Coprime q.natAbs p.natAbs from c2) h1
  exact Int.natAbs_dvd_natAbs.mp h2
 have d1:=half c e
 have d2:=half c' e.symm
 have eq:q=q':=by
  have h1:=Int.le_of_dvd hq' d1
  have h2:=Int.le_of_dvd hq d2
  lia
 subst eq
 exact⟨Int.eq_of_mul_eq_mul_right (by lia) e,rfl⟩
theorem low_congr {t b t' b':Int}(hb:0<b)(hb':0<b')(e:t*b'=t'*b):low t b=low t' b':=by
 obtain⟨p,q,e1,q1,r1,c1,_⟩:=low_spec (t:=t) hb
 obtain⟨p',q',e2,q2,r2,c2,_⟩:=low_spec (t:=t') hb'
 have:p=p'/\q=q':=by
  refine frac_uniq q1 q2 c1 c2 ?_
  have h:(p*q')*(b*b')=(p'*q)*(b*b'):=by
   have a1:(p*q')*(b*b')=(p*b)*(q'*b'):=by rw[m4]
   have a2:(p'*q)*(b*b')=(p'*b')*(q*b):=by rw[Int.mul_comm b b',m4]
   have a3:(t*q)*(q'*b')=(t*b')*(q*q'):=by rw[Int.mul_comm q' b',m4]
   have a4:(t'*q')*(q*b)=(t'*b)*(q*q'):=by rw[Int.mul_comm q b,m4,Int.mul_comm q' q]
   rw[a1,a2,r1,r2,a3,a4,e]
  exact Int.eq_of_mul_eq_mul_right (Int.mul_ne_zero (by lia) (by lia)) h
 rw[e1,e2,this.1,this.2]
structure Fr (k:Nat) (p q:Int):Prop where
 pos:0<q
 top:p.natAbs<=10 ^ k
 bot:q.natAbs<=10 ^ k
theorem Fr.mono {j k:Nat}{p q:Int}(h:Fr j p q)(hk:j<=k):Fr k p q :=
 have:=Nat.pow_le_pow_right (show 0<10 by decide) hk
 ⟨h.pos,by have:=h.top;lia,by have:=h.bot;lia⟩
theorem low_fr {k:Nat}{t b:Int}(h:Fr k t b):∃p q,low t b=nD p q/\Fr k p q/\p*b=t*q/\Int.gcd p q=1:=by
 obtain⟨p,q,e,q1,r,c,h1,h2⟩:=low_spec (t:=t) h.pos
 have:=h.top
 have:=h.bot
 exact⟨p,q,e,⟨q1,by lia,by lia⟩,r,c⟩
theorem gcd_le {k:Nat}{t b:Int}(h:t.natAbs<=10 ^ k)(h2:b.natAbs<=10 ^ k):(((Int.gcd t b:Nat):Int)).natAbs<=10 ^ k:=by
 rw[Int.natAbs_natCast]
 by_cases hz:b=0
 ·subst hz;simpa using h
 ·have h1:((Int.gcd t b:Nat):Int) ∣ b:=Int.gcd_dvd_right t b
  have h2:=Nat.le_of_dvd (by lia) (Int.natAbs_dvd_natAbs.mpr h1)
  rw[Int.natAbs_natCast] at h2
  lia
theorem f_amount {k:Nat}{t b:Int}(h:Fr k t b)(hk:k<=900):F_amount [.int t,.int b]=.ok (.im (low t b)):=by
 have gp:=gcd_pos (t:=t) (b:=b) (by have:=h.pos;lia)
 have gs:sm ((Int.gcd t b:Nat):Int)=true:=sm_of (gcd_le h.top h.bot) hk
 exact(fn2 _ _ _ _).trans (fin_of (go (set_ok (call_ok (aC rfl (a1 rfl)) (f_cd t b) rfl)) (ret_ok (tup2 (op_ok rfl rfl (gFd gp gs)) (op_ok rfl rfl (gFd gp gs))))))
theorem ten_le {j k:Nat}(h:j<=k):(10:Nat) ^ j<=10 ^ k:=Nat.pow_le_pow_right (by decide) h
theorem fr_add {k:Nat}{a b c d:Int}(h1:Fr k a b)(h2:Fr k c d):Fr (k+k+1) (a*d+c*b) (b*d) :=
 ⟨Int.mul_pos h1.pos h2.pos,add_le' (mul_le' h1.top h2.bot) (mul_le' h2.top h1.bot),Nat.le_trans (mul_le' h1.bot h2.bot) (ten_le (by lia))⟩
theorem fr_sub {k:Nat}{a b c d:Int}(h1:Fr k a b)(h2:Fr k c d):Fr (k+k+1) (a*d - c*b) (b*d) :=
 ⟨Int.mul_pos h1.pos h2.pos,sub_le' (mul_le' h1.top h2.bot) (mul_le' h2.top h1.bot),Nat.le_trans (mul_le' h1.bot h2.bot) (ten_le (by lia))⟩
theorem f_plus {k:Nat}{a b c d:Int}(h1:Fr k a b)(h2:Fr k c d)(hk:k<=400):F_plus [nD a b,nD c d]=.ok (.im (low (a*d+c*b) (b*d))):=by
 have sa:=sm_of h1.top (by lia)
 have sb:=sm_of h1.bot (by lia)
 have sc:=sm_of h2.top (by lia)
 have sd:=sm_of h2.bot (by lia)
 refine(fn2 _ _ _ _).trans (fin_of (ret_ok (call_ok (aC (d:=.int (a*d+c*b)) (op_ok (op_ok (ixt_ok rfl rfl (atI0 _ _)) (ixt_ok rfl rfl (atI1 _ _ _)) (gT sa sd)) (op_ok (ixt_ok rfl rfl (atI0 _ _)) (ixt_ok rfl rfl (atI1 _ _ _)) (gT sc sb)) rfl) (a1 (d:=.int (b*d)) (op_ok (ixt_ok rfl rfl (atI1 _ _ _)) (ixt_ok rfl rfl (atI1 _ _ _)) (gT sb sd)))) (f_amount (fr_add h1 h2) (by lia)) rfl)))
theorem f_minus {k:Nat}{a b c d:Int}(h1:Fr k a b)(h2:Fr k c d)(hk:k<=400):F_minus [nD a b,nD c d]=.ok (.im (low (a*d - c*b) (b*d))):=by
 have sa:=sm_of h1.top (by lia)
 have sb:=sm_of h1.bot (by lia)
 have sc:=sm_of h2.top (by lia)
 have sd:=sm_of h2.bot (by lia)
 refine(fn2 _ _ _ _).trans (fin_of (ret_ok (call_ok (aC (d:=.int (a*d - c*b)) (op_ok (op_ok (ixt_ok rfl rfl (atI0 _ _)) (ixt_ok rfl rfl (atI1 _ _ _)) (gT sa sd)) (op_ok (ixt_ok rfl rfl (atI0 _ _)) (ixt_ok rfl rfl (atI1 _ _ _)) (gT sc sb)) rfl) (a1 (d:=.int (b*d)) (op_ok (ixt_ok rfl rfl (atI1 _ _ _)) (ixt_ok rfl rfl (atI1 _ _ _)) (gT sb sd)))) (f_amount (fr_sub h1 h2) (by lia)) rfl)))
theorem f_below {k:Nat}{a b c d:Int}(h1:Fr k a b)(h2:Fr k c d)(hk:k<=400):F_below [nD a b,nD c d]=.ok (.im (.bl (decide (a*d<c*b)))):=by
 have sa:=sm_of h1.top (by lia)
 have sb:=sm_of h1.bot (by lia)
 have sc:=sm_of h2.top (by lia)
 have sd:=sm_of h2.bot (by lia)
 exact(fn2 _ _ _ _).trans (fin_of (ret_ok (op_ok (op_ok (ixt_ok rfl rfl (atI0 _ _)) (ixt_ok rfl rfl (atI1 _ _ _)) (gT sa sd)) (op_ok (ixt_ok rfl rfl (atI0 _ _)) (ixt_ok rfl rfl (atI1 _ _ _)) (gT sc sb)) rfl)))
theorem loop_lg (x y:Option S):∀(n:Nat) (hi lo:Int),0<=hi->0<=lo->lo.toNat<n ->
  whileD (DL.tB (eOp gGt (eVar 3) (eC (.int 0)))) (sPar 2 3 (aCons (eVar 3) (aCons (eOp gMod (eVar 2) (eVar 3)) aNil))) n [x,y,some (.im (.int hi)),some (.im (.int lo))] =
   .ok (.nx [x,y,some (.im (.int (Int.gcd hi lo:Nat))),some (.im (.int 0))])
 |0,_,_,_,_,h=>by lia
 |n+1,hi,lo,hg,hl,h=>by
  by_cases hz:lo=0
  ·subst hz
   simp[whileD,DL.tB,eOp,eVar,eC,gGt,gI0,asB]
   lia
  ·have hp:0<lo:=by lia
   have hm0:0<=hi % lo:=Int.emod_nonneg hi (by lia)
   have hm1:hi % lo<lo:=Int.emod_lt_of_pos hi hp
   have e:=loop_lg x y n lo (hi % lo) hl hm0 (by lia)
   rw[gcd_step hg hp] at e
   rw[<-e]
   simp[whileD,DL.tB,eOp,eVar,eC,gGt,gI0,asB,sPar,aCons,aNil,gM hp,hp]
theorem par_ok {i j:Nat}{fs:DSt->M (List D)}{sd:DSt}{a b:D}(h:fs sd=.ok [a,b]):sPar i j fs sd=.ok (.nx ((sd.set i (some (.im a))).set j (some (.im b)))):=by
 unfold sPar
 rw[h]
 rfl
theorem while_lg (x y:Option S){hi lo:Int}(h1:0<=hi)(h2:0<=lo):sWhile (DL.tB (eOp gGt (eVar 3) (eC (.int 0)))) (sPar 2 3 (aCons (eVar 3) (aCons (eOp gMod (eVar 2) (eVar 3)) aNil))) [x,y,some (.im (.int hi)),some (.im (.int lo))]=.ok (.nx [x,y,some (.im (.int (Int.gcd hi lo:Nat))),some (.im (.int 0))]):=by
 have e:=loop_lg x y (lo.toNat+1) hi lo h1 h2 (by lia)
 have e2:=sWhile_eq (c:=DL.tB (eOp gGt (eVar 3) (eC (.int 0)))) (f:=sPar 2 3 (aCons (eVar 3) (aCons (eOp gMod (eVar 2) (eVar 3)) aNil))) (n:=lo.toNat+1) (sd:=[x,y,some (.im (.int hi)),some (.im (.int lo))]) (by rw[e];simp)
 exact e2.trans e
theorem f_low {k:Nat}{t b:Int}(h:Fr k t b)(hk:k<=900):F_l_lowest [.int t,.int b]=.ok (.im (low t b)):=by
 have gp:=gcd_pos (t:=t) (b:=b) (by have:=h.pos;lia)
 have gs:sm ((Int.gcd t b:Nat):Int)=true:=sm_of (gcd_le h.top h.bot) hk
 have eg:((Int.gcd (t.natAbs:Int) b:Nat):Int)=(Int.gcd t b:Nat):=by simp[Int.gcd]
 have w:=while_lg (some (.im (.int t))) (some (.im (.int b))) (hi:=(t.natAbs:Int)) (lo:=b) (by lia) (by have:=h.pos;lia)
 rw[eg] at w
 exact(fn2 _ _ _ _).trans (fin_of (go (par_ok (aC (cb_ok (a1 rfl) (abs_ok t)) (a1 rfl))) (go w (ret_ok (tup2 (op_ok rfl rfl (gFd gp gs)) (op_ok rfl rfl (gFd gp gs)))))))
end Law
set_option maxRecDepth 100000
set_option maxHeartbeats 4000000
set_option linter.all false
namespace Law
open PySem L2 DL
def gI (P Q:Int):Int:=(Int.gcd P Q:Nat)
def wy (P Q:Int):Int×Int:=(P / gI P Q,Q / gI P Q)
theorem wy_spec {P Q:Int}(h:P≠0\/Q≠0):0<gI P Q/\P=gI P Q*(wy P Q).1/\Q=gI P Q*(wy P Q).2/\Int.gcd (wy P Q).1 (wy P Q).2=1:=by
 have gp:0<gI P Q:=gcd_pos (t:=P) (b:=Q) (by lia)
 obtain⟨u,eu⟩:gI P Q ∣ P:=Int.gcd_dvd_left P Q
 obtain⟨v,ev⟩:gI P Q ∣ Q:=Int.gcd_dvd_right P Q
 have e1:(wy P Q).1=u:=by
  show P / gI P Q=u
  rw[eu]
  rw[<-eu]
  exact Int.ediv_eq_of_eq_mul_right (by lia) eu
 have e2:(wy P Q).2=v:=Int.ediv_eq_of_eq_mul_right (by lia) ev
 rw[e1,e2]
 refine⟨gp,eu,ev,?_⟩
 have h1:Int.gcd (gI P Q*u) (gI P Q*v)=Int.gcd P Q:=by rw[<-eu,<-ev]
 rw[Int.gcd_mul_left] at h1
 have h2:(gI P Q).natAbs=Int.gcd P Q:=Int.natAbs_natCast _
 rw[h2] at h1
 have h0:0<Int.gcd P Q:=by unfold gI at gp;lia
 exact Nat.eq_of_mul_eq_mul_left h0 (by rw[h1,Nat.mul_one])
theorem prim_uniq {k k' u v u' v':Int}(hk:0<k)(hk':0<k')(c:Int.gcd u v=1)(c':Int.gcd u' v'=1)(e1:k*u=k'*u')(e2:k*v=k'*v'):k=k'/\u=u'/\v=v':=by
 have h:Int.gcd (k*u) (k*v)=Int.gcd (k'*u') (k'*v'):=by rw[e1,e2]
 rw[Int.gcd_mul_left,Int.gcd_mul_left,c,c',Nat.mul_one,Nat.mul_one] at h
 have hkk:k=k':=by lia
 subst hkk
 exact⟨rfl,Int.eq_of_mul_eq_mul_left (by lia) e1,Int.eq_of_mul_eq_mul_left (by lia) e2⟩
theorem way_congr {P Q N P' Q' N':Int}(hN:0<N)(hN':0<N')(h:P≠0\/Q≠0)(e1:P*N'=P'*N)(e2:Q*N'=Q'*N):(P'≠0\/Q'≠0)/\wy P Q=wy P' Q'/\gI P Q*N'=gI P' Q'*N:=by
 have h':P'≠0\/Q'≠0:=by
  rcases h with h|h
  ·exact .inl fun z=>Int.mul_ne_zero h (show N'≠0 by lia) (by rw[e1,z,Int.zero_mul])
  ·exact .inr fun z=>Int.mul_ne_zero h (show N'≠0 by lia) (by rw[e2,z,Int.zero_mul])
 obtain⟨g1,p1,q1,c1⟩:=wy_spec h
 obtain⟨g2,p2,q2,c2⟩:=wy_spec h'
 have f1:(gI P Q*N')*(wy P Q).1=(gI P' Q'*N)*(wy P' Q').1:=by
  rw[Int.mul_right_comm,<-p1,Int.mul_right_comm,<-p2,e1]
 have f2:(gI P Q*N')*(wy P Q).2=(gI P' Q'*N)*(wy P' Q').2:=by
  rw[Int.mul_right_comm,<-q1,Int.mul_right_comm,<-q2,e2]
 obtain⟨k1,k2,k3⟩:=prim_uniq (Int.mul_pos g1 hN') (Int.mul_pos g2 hN) c1 c2 f1 f2
 exact⟨h',Prod.ext k2 k3,k1⟩
structure Vc where
 P:Int
 Q:Int
 N:Int
def ab1 (v:Vc):Int:=(v.P.natAbs:Int)+v.Q.natAbs
def Vc.nz (v:Vc):Prop:=v.P≠0\/v.Q≠0
instance (v:Vc):Decidable v.nz:=by unfold Vc.nz;exact inferInstance
def wD (v:Vc):D:=nD (wy v.P v.Q).1 (wy v.P v.Q).2
def farP (v:Vc):D:=low (ab1 v) v.N
structure Po4 where
 a:Int
 b:Int
 c:Int
 d:Int
def Po4.D (p:Po4):D:=.tup [nD p.a p.b,nD p.c p.d]
structure PoOk (k:Nat) (p:Po4):Prop where
 x:Fr k p.a p.b
 y:Fr k p.c p.d
def vec (o p:Po4):Vc:=⟨(p.a*o.b - o.a*p.b)*(p.d*o.d),(p.c*o.d - o.c*p.d)*(p.b*o.b),(p.b*o.b)*(p.d*o.d)⟩
end Law
set_option maxRecDepth 100000
set_option maxHeartbeats 4000000
set_option linter.all false
namespace Law
open PySem L2 DL
theorem f_step {k:Nat}{o p q:Po4}(ho:PoOk k o)(hq:PoOk k q)(hk:k<=100)(pb:0<p.b)(pd:0<p.d)(e1:q.a*p.b=p.a*q.b)(e2:q.c*p.d=p.c*q.d) :
  F_step_to [o.D,q.D]=.ok (.im (.tup [low (p.a*o.b - o.a*p.b) (p.b*o.b),low (p.c*o.d - o.c*p.d) (p.d*o.d)])):=by
 have l1:low (q.a*o.b - o.a*q.b) (q.b*o.b)=low (p.a*o.b - o.a*p.b) (p.b*o.b):=by
  refine low_congr (Int.mul_pos hq.x.pos ho.x.pos) (Int.mul_pos pb ho.x.pos) ?_
  rw[Int.sub_mul,Int.sub_mul,m4 q.a,e1,m4 p.a,Int.mul_comm q.b o.b,Int.mul_comm p.b o.b,Int.mul_comm o.a q.b,Int.mul_comm o.a p.b]
  rw[show q.b*o.a*(o.b*p.b)=p.b*o.a*(o.b*q.b) by rw[Int.mul_comm o.b p.b,Int.mul_comm o.b q.b,m4 q.b o.a p.b o.b,m4 p.b o.a q.b o.b,Int.mul_comm q.b p.b]]
 have l2:low (q.c*o.d - o.c*q.d) (q.d*o.d)=low (p.c*o.d - o.c*p.d) (p.d*o.d):=by
  refine low_congr (Int.mul_pos hq.y.pos ho.y.pos) (Int.mul_pos pd ho.y.pos) ?_
  rw[Int.sub_mul,Int.sub_mul,m4 q.c,e2,m4 p.c,Int.mul_comm q.d o.d,Int.mul_comm p.d o.d,Int.mul_comm o.c q.d,Int.mul_comm o.c p.d]
  rw[show q.d*o.c*(o.d*p.d)=p.d*o.c*(o.d*q.d) by rw[Int.mul_comm o.d p.d,Int.mul_comm o.d q.d,m4 q.d o.c p.d o.d,m4 p.d o.c q.d o.d,Int.mul_comm q.d p.d]]
 rw[<-l1,<-l2]
 exact(fn2 _ _ _ _).trans (fin_of (ret_ok (tup2 (call_ok (aC (ixt_ok rfl rfl (atI0 _ _)) (a1 (ixt_ok rfl rfl (atI0 _ _)))) (f_minus hq.x ho.x (by lia)) rfl) (call_ok (aC (ixt_ok rfl rfl (atI1 _ _ _)) (a1 (ixt_ok rfl rfl (atI1 _ _ _)))) (f_minus hq.y ho.y (by lia)) rfl))))
end Law
set_option maxRecDepth 100000
set_option maxHeartbeats 4000000
set_option linter.all false
namespace Law
open PySem L2 DL
theorem na_mul (a b:Int)(hb:0<b):((a*b).natAbs:Int)=(a.natAbs:Int)*b:=by
 rw[Int.natAbs_mul,Int.natCast_mul]
 congr 1
 lia
theorem vec_nz {o p:Po4}(ho1:0<o.b)(ho2:0<o.d)(hp1:0<p.b)(hp2:0<p.d):(vec o p).nz↔p.a*o.b - o.a*p.b≠0\/p.c*o.d - o.c*p.d≠0:=by
 have h1:p.d*o.d≠0:=Int.mul_ne_zero (by lia) (by lia)
 have h2:p.b*o.b≠0:=Int.mul_ne_zero (by lia) (by lia)
 unfold Vc.nz vec
 dsimp only
 constructor
 ·rintro(h|h)
  ·exact .inl fun z=>h (by rw[z,Int.zero_mul])
  ·exact .inr fun z=>h (by rw[z,Int.zero_mul])
 ·rintro(h|h)
  ·exact .inl (Int.mul_ne_zero h h1)
  ·exact .inr (Int.mul_ne_zero h h2)
theorem vec_pos {o p:Po4}(ho1:0<o.b)(ho2:0<o.d)(hp1:0<p.b)(hp2:0<p.d):0<(vec o p).N:=Int.mul_pos (Int.mul_pos hp1 ho1) (Int.mul_pos hp2 ho2)
theorem step_facts {k:Nat}{o p:Po4}(ho:PoOk k o)(hp:PoOk k p)(hk:k<=50):∃s t u v,low (p.a*o.b - o.a*p.b) (p.b*o.b)=nD s t/\low (p.c*o.d - o.c*p.d) (p.d*o.d)=nD u v /\
  gNe4 0 1 0 1 (.tup [nD s t,nD u v])=.ok (.bl (decide (vec o p).nz))/\((vec o p).nz->F_direction [.tup [nD s t,nD u v]]=.ok (.im (wD (vec o p)))/\F_length [.tup [nD s t,nD u v]]=.ok (.im (farP (vec o p)))):=by
 have f1:Fr (k+k+1) (p.a*o.b - o.a*p.b) (p.b*o.b):=fr_sub hp.x ho.x
 have f2:Fr (k+k+1) (p.c*o.d - o.c*p.d) (p.d*o.d):=fr_sub hp.y ho.y
 obtain⟨s,t,e1,r1,m1,c1⟩:=low_fr f1
 obtain⟨u,v,e2,r2,m2,c2⟩:=low_fr f2
 have nzi:=vec_nz ho.x.pos ho.y.pos hp.x.pos hp.y.pos
 have vN:=vec_pos ho.x.pos ho.y.pos hp.x.pos hp.y.pos
 have z1:s=0↔p.a*o.b - o.a*p.b=0:=by
  constructor
  ·intro z;rw[z,Int.zero_mul] at m1
   rcases Int.mul_eq_zero.mp m1.symm with q|q
   ·exact q
   ·have:=r1.pos;lia
  ·intro z;rw[z,Int.zero_mul] at m1
   rcases Int.mul_eq_zero.mp m1 with q|q
   ·exact q
   ·have:=f1.pos;lia
 have z2:u=0↔p.c*o.d - o.c*p.d=0:=by
  constructor
  ·intro z;rw[z,Int.zero_mul] at m2
   rcases Int.mul_eq_zero.mp m2.symm with q|q
   ·exact q
   ·have:=r2.pos;lia
  ·intro z;rw[z,Int.zero_mul] at m2
   rcases Int.mul_eq_zero.mp m2 with q|q
   ·exact q
   ·have:=f2.pos;lia
 refine⟨s,t,u,v,e1,e2,?_,fun hz=>?_⟩
 ·show M.ok (D.bl (!(decide (s=0)&&decide (t=1)&&decide (u=0)&&decide (v=1))))=_
  congr 2
  by_cases hz:(vec o p).nz
  ·rw[decide_eq_true hz]
   have:¬(s=0/\u=0):=by rw[z1,z2];have:=nzi.mp hz;lia
   rcases(by lia:s≠0\/u≠0) with q|q
   ·rw[decide_eq_false q];rfl
   ·rw[decide_eq_false q];simp
  ·rw[decide_eq_false hz]
   have hh:s=0/\u=0:=by rw[z1,z2];have:=(not_congr nzi).mp hz;lia
   have t1:t=1:=by
    rw[hh.1,Int.gcd_zero_left] at c1;have:=r1.pos;lia
   have v1:v=1:=by
    rw[hh.2,Int.gcd_zero_left] at c2;have:=r2.pos;lia
   rw[hh.1,hh.2,t1,v1];rfl
 ·
  have hN':0<t*v:=Int.mul_pos r1.pos r2.pos
  have q1:(vec o p).P*(t*v)=(s*v)*(vec o p).N:=by
   show(p.a*o.b - o.a*p.b)*(p.d*o.d)*(t*v)=(s*v)*((p.b*o.b)*(p.d*o.d))
   rw[m4,<-m1,m4 s v,Int.mul_comm (p.d*o.d) v]
  have q2:(vec o p).Q*(t*v)=(u*t)*(vec o p).N:=by
   show(p.c*o.d - o.c*p.d)*(p.b*o.b)*(t*v)=(u*t)*((p.b*o.b)*(p.d*o.d))
   rw[Int.mul_comm t v,m4,<-m2,Int.mul_comm (p.b*o.b) (p.d*o.d),m4 u t,Int.mul_comm (p.b*o.b) t]
  obtain⟨w1,w2,w3⟩:=way_congr vN hN' hz q1 q2
  have ss:=sm_of r1.top (by lia)
  have st:=sm_of r1.bot (by lia)
  have su:=sm_of r2.top (by lia)
  have sv:=sm_of r2.bot (by lia)
  have b1:(s*v).natAbs<=10 ^ (k+k+1+(k+k+1)):=mul_le' r1.top r2.bot
  have b2:(u*t).natAbs<=10 ^ (k+k+1+(k+k+1)):=mul_le' r2.top r1.bot
  have gp:(0:Int)<(Int.gcd (s*v) (u*t):Nat):=gcd_pos (by lia)
  have gs:=sm_of (gcd_le b1 b2) (by lia)
  constructor
  ·unfold wD
   rw[w2]
   refine(fn1 _ _ _).trans (fin_of (go (set_ok (d:=.int (s*v)) (op_ok (ixt_ok (ixt_ok rfl rfl (atI0 _ _)) rfl (atI0 _ _)) (ixt_ok (ixt_ok rfl rfl (atI1 _ _ _)) rfl (atI1 _ _ _)) (gT ss sv))) (go (set_ok (d:=.int (u*t)) (op_ok (ixt_ok (ixt_ok rfl rfl (atI1 _ _ _)) rfl (atI0 _ _)) (ixt_ok (ixt_ok rfl rfl (atI0 _ _)) rfl (atI1 _ _ _)) (gT su st))) (go (set_ok (call_ok (aC rfl (a1 rfl)) (f_cd _ _) rfl)) (ret_ok (tup2 (op_ok rfl rfl (gFd gp gs)) (op_ok rfl rfl (gFd gp gs))))))))
  ·have fa1:Fr (k+k+1) (s.natAbs:Int) t:=⟨r1.pos,by rw[Int.natAbs_natCast];exact r1.top,r1.bot⟩
   have fa2:Fr (k+k+1) (u.natAbs:Int) v:=⟨r2.pos,by rw[Int.natAbs_natCast];exact r2.top,r2.bot⟩
   have e:farP (vec o p)=low ((s.natAbs:Int)*v+(u.natAbs:Int)*t) (t*v):=by
    refine low_congr vN hN' ?_
    unfold ab1
    rw[<-na_mul s v r2.pos,<-na_mul u t r1.pos,Int.add_mul,Int.add_mul,<-na_mul _ _ hN',<-na_mul _ _ hN',q1,q2,na_mul _ _ vN,na_mul _ _ vN]
   rw[e]
   exact(fn1 _ _ _).trans (fin_of (ret_ok (call_ok (aC (tup2 (cb_ok (a1 (ixt_ok (ixt_ok rfl rfl (atI0 _ _)) rfl (atI0 _ _))) (abs_ok s)) (ixt_ok (ixt_ok rfl rfl (atI0 _ _)) rfl (atI1 _ _ _))) (a1 (tup2 (cb_ok (a1 (ixt_ok (ixt_ok rfl rfl (atI1 _ _ _)) rfl (atI0 _ _))) (abs_ok u)) (ixt_ok (ixt_ok rfl rfl (atI1 _ _ _)) rfl (atI1 _ _ _))))) (f_plus fa1 fa2 (by lia)) rfl)))
end Law
set_option maxRecDepth 100000
set_option maxHeartbeats 4000000
set_option linter.all false
namespace Law
open PySem L2 DL
abbrev Pr:=Int×Int
def kP (p:Pr):List Key:=[.inl p.1,.inl p.2]
theorem kP_inj {p q:Pr}:kP p=kP q↔p=q:=by
 constructor
 ·intro h
  unfold kP at h
  injection h with h1 h2
  injection h2 with h2 _
  injection h1 with h1
  injection h2 with h2
  exact Prod.ext h1 h2
 ·rintro rfl;rfl
structure Ev where
 w:Pr
 n:Int
 d:Int
 x:List D
def valE (e:Ev):D:=.tup (nD e.n e.d::e.x)
def kvE (K:List Ev):List (List Key×D):=K.map fun e=>(kP e.w,valE e)
def atW (K:List Ev)(w:Pr):Option Ev:=K.find? fun e=>decide (e.w=w)
def putE (K:List Ev)(e:Ev):List Ev:=if(K.any fun f=>decide (f.w=e.w))=true then K.map (fun f=>if f.w=e.w then e else f) else K++[e]
def updE (K:List Ev)(e:Ev):List Ev:=match atW K e.w with
 |none=>putE K e
 |some f=>if e.n*f.d<f.n*e.d then putE K e else K
theorem find_map {α β:Type}(f:α->β)(p:β->Bool):∀l:List α,(l.map f).find? p=(l.find? fun a=>p (f a)).map f
 |[]=>rfl
 |a::l=>by
  rw[List.map_cons,List.find?_cons,List.find?_cons]
  cases h:p (f a)
  ·exact find_map f p l
  ·rfl
theorem getE (K:List Ev)(w:Pr):getD' (kvE K) (kP w)=(atW K w).map valE:=by
 unfold getD' kvE atW
 rw[find_map,Option.map_map]
 have:(fun a:Ev=>decide (((kP a.w,valE a):List Key×D).1=kP w))=fun e=>decide (e.w=w):=by
  funext a
  exact decide_eq_decide.mpr kP_inj
 rw[this]
 rfl
theorem hasE (K:List Ev)(w:Pr):hasD (kvE K) (kP w)=(atW K w).isSome:=by
 unfold hasD kvE atW
 rw[List.any_map]
 have:((fun kv:List Key×D=>decide (kv.1=kP w))∘fun e:Ev=>(kP e.w,valE e))=fun e=>decide (e.w=w):=by
  funext a
  exact decide_eq_decide.mpr kP_inj
 rw[this,Bool.eq_iff_iff,List.any_eq_true,List.find?_isSome]
theorem put_kvE (K:List Ev)(e:Ev):putD (kvE K) (kP e.w) (valE e)=kvE (putE K e):=by
 unfold putD putE
 have h1:((kvE K).any fun kv=>decide (kv.1=kP e.w))=(K.any fun f=>decide (f.w=e.w)):=by
  unfold kvE
  rw[List.any_map]
  congr 1
  funext a
  exact decide_eq_decide.mpr kP_inj
 rw[h1]
 split
 ·unfold kvE
  rw[List.map_map,List.map_map]
  refine List.map_congr_left fun f _=>?_
  show(if kP f.w=kP e.w then(kP f.w,valE e) else(kP f.w,valE f))=(kP (if f.w=e.w then e else f).w,valE (if f.w=e.w then e else f))
  by_cases h:f.w=e.w
  ·rw[if_pos (kP_inj.mpr h),if_pos h,h]
  ·rw[if_neg (fun z=>h (kP_inj.mp z)),if_neg h]
 ·unfold kvE
  rw[List.map_append]
  rfl
theorem putE_len (K:List Ev)(e:Ev):(putE K e).length<=K.length+1:=by
 unfold putE
 split
 ·rw[List.length_map];lia
 ·rw[List.length_append,List.length_singleton];exact Nat.le_refl _
theorem updE_len (K:List Ev)(e:Ev):(updE K e).length<=K.length+1:=by
 unfold updE
 split
 ·exact putE_len K e
 ·split
  ·exact putE_len K e
  ·lia
structure Told (K:List Ev) (L:List Ev):Prop where
 nd:(K.map (·.w)).Nodup
 mem:∀e∈K,e∈L
 low:∀e∈L,∃f∈K,f.w=e.w/\¬e.n*f.d<f.n*e.d
theorem Told.nil:Told [] []:=⟨List.nodup_nil,fun _ h=>(by cases h),fun _ h=>(by cases h)⟩
theorem atW_some {K:List Ev}{w:Pr}{f:Ev}(h:atW K w=some f):f∈K/\f.w=w:=⟨List.mem_of_find?_eq_some h,of_decide_eq_true (p:=f.w=w) (List.find?_some (p:=fun e:Ev=>decide (e.w=w)) h)⟩
theorem atW_none {K:List Ev}{w:Pr}(h:atW K w=none):∀f∈K,f.w≠w:=fun f hf z=>by
 have:=List.find?_eq_none.mp h f hf
 exact this (decide_eq_true z)
theorem uniq_w {K:List Ev}(nd:(K.map (·.w)).Nodup){e f:Ev}(he:e∈K)(hf:f∈K)(h:e.w=f.w):e=f:=by
 induction K with
 |nil=>cases he
 |cons a K ih =>
  rw[List.map_cons,List.nodup_cons] at nd
  rcases List.mem_cons.mp he with rfl|he'
  ·rcases List.mem_cons.mp hf with rfl|hf'
   ·rfl
   ·exact(nd.1 (List.mem_map.mpr ⟨f,hf',h.symm⟩)).elim
  ·rcases List.mem_cons.mp hf with rfl|hf'
   ·exact(nd.1 (List.mem_map.mpr ⟨e,he',h⟩)).elim
   ·exact ih nd.2 he' hf'
theorem putE_w (K:List Ev)(e:Ev):(putE K e).map (·.w)=if(K.any fun f=>decide (f.w=e.w))=true then K.map (·.w) else K.map (·.w)++[e.w]:=by
 unfold putE
 split
 ·rw[List.map_map]
  refine List.map_congr_left fun f _=>?_
  show(if f.w=e.w then e else f).w=f.w
  split
  ·rename_i h;exact h.symm
  ·rfl
 ·rw[List.map_append];rfl
theorem putE_mem {K:List Ev}{e f:Ev}(h:f∈putE K e):f=e\/(f∈K/\f.w≠e.w):=by
 unfold putE at h
 split at h
 ·obtain⟨g,hg,rfl⟩:=List.mem_map.mp h
  by_cases z:g.w=e.w
  ·rw[if_pos z];exact .inl rfl
  ·rw[if_neg z];exact .inr ⟨hg,z⟩
 ·rename_i hn
  rcases List.mem_append.mp h with z|z
  ·refine .inr ⟨z,fun q=>hn ?_⟩
   exact List.any_eq_true.mpr ⟨f,z,decide_eq_true q⟩
  ·exact .inl (by simpa using z)
theorem putE_self (K:List Ev)(e:Ev):e∈putE K e:=by
 unfold putE
 split
 ·rename_i h
  obtain⟨g,hg,q⟩:=List.any_eq_true.mp h
  exact List.mem_map.mpr ⟨g,hg,if_pos (of_decide_eq_true q)⟩
 ·simp
theorem putE_old {K:List Ev}{e f:Ev}(hf:f∈K)(h:f.w≠e.w):f∈putE K e:=by
 unfold putE
 split
 ·exact List.mem_map.mpr ⟨f,hf,if_neg h⟩
 ·exact List.mem_append_left _ hf
theorem putE_nd {K:List Ev}{e:Ev}(nd:(K.map (·.w)).Nodup):((putE K e).map (·.w)).Nodup:=by
 rw[putE_w]
 split
 ·exact nd
 ·rename_i hn
  refine List.nodup_append.mpr ⟨nd,by simp,fun a ha b hb=>?_⟩
  have:b=e.w:=by simpa using hb
  rintro rfl
  obtain⟨f,hf,q⟩:=List.mem_map.mp ha
  exact hn (List.any_eq_true.mpr ⟨f,hf,decide_eq_true (q.trans this)⟩)
def EvOk (e:Ev):Prop:=0<e.d
theorem lt_chain {en ed kn kd fn fd:Int}(hd:0<ed)(hk:0<kd)(hf:0<fd)(h1:¬fn*kd<kn*fd)(h2:en*kd<kn*ed):¬fn*ed<en*fd:=by
 intro h3
 have a1:kn*fd*ed<=fn*kd*ed:=Int.mul_le_mul_of_nonneg_right (Int.not_lt.mp h1) (Int.le_of_lt hd)
 have a2:en*kd*fd<kn*ed*fd:=Int.mul_lt_mul_of_pos_right h2 hf
 have a3:fn*ed*kd<en*fd*kd:=Int.mul_lt_mul_of_pos_right h3 hk
 rw[Int.mul_right_comm kn fd ed] at a1
 rw[Int.mul_right_comm fn kd ed] at a1
 rw[Int.mul_right_comm en kd fd] at a2
 lia
theorem Told.add {K L:List Ev}(t:Told K L)(hL:∀e∈L,EvOk e){e:Ev}(he:EvOk e):Told (updE K e) (L++[e]):=by
 have put:(∀f∈K,f.w=e.w->e.n*f.d<f.n*e.d)->Told (putE K e) (L++[e]):=fun hb=>by
  refine⟨putE_nd t.nd,fun f hf=>?_,fun f hf=>?_⟩
  ·rcases putE_mem hf with rfl|⟨h,_⟩
   ·simp
   ·exact List.mem_append_left _ (t.mem f h)
  ·rcases List.mem_append.mp hf with h|h
   ·obtain⟨g,hg,g1,g2⟩:=t.low f h
    by_cases z:g.w=e.w
    ·refine⟨e,putE_self K e,z.symm.trans g1,?_⟩
     exact lt_chain he (hL g (t.mem g hg)) (hL f h) g2 (hb g hg z)
    ·exact⟨g,putE_old hg z,g1,g2⟩
   ·have:f=e:=by simpa using h
    rw[this]
    exact⟨e,putE_self K e,rfl,Int.lt_irrefl _⟩
 unfold updE
 split
 ·rename_i hn
  exact put fun f hf z=>absurd z (atW_none hn f hf)
 ·rename_i f hs
  obtain⟨hf,hw⟩:=atW_some hs
  split
  ·rename_i hlt
   exact put fun g hg z=>by rw[uniq_w t.nd hg hf (z.trans hw.symm)];exact hlt
  ·rename_i hlt
   refine⟨t.nd,fun g hg=>List.mem_append_left _ (t.mem g hg),fun g hg=>?_⟩
   rcases List.mem_append.mp hg with h|h
   ·exact t.low g h
   ·have:g=e:=by simpa using h
    rw[this]
    exact⟨f,hf,hw,hlt⟩
end Law
set_option maxRecDepth 100000
set_option maxHeartbeats 4000000
set_option linter.all false
namespace Law
open PySem L2 DL
def wE (e:Ev):D:=nD e.w.1 e.w.2
def FrE (k:Nat)(e:Ev):Prop:=Fr k e.n e.d
theorem dget_E (K:List Ev)(e:Ev):dget (some (some (.od (kvE K)))) (wE e)=some ((atW K e.w).map valE):=by
 show(keysD [.int e.w.1,.int e.w.2]).map (getD' (kvE K))=_
 show some (getD' (kvE K) (kP e.w))=_
 rw[getE]
theorem dhas_E (K:List Ev)(e:Ev):dhas (some (some (.od (kvE K)))) (wE e)=some (atW K e.w).isSome:=by
 show some (hasD (kvE K) (kP e.w))=_
 rw[hasE]
theorem dput_E {K:List Ev}(e:Ev)(hl:K.length<=1000000):dput (some (some (.od (kvE K)))) (wE e) (valE e)=some (.od (kvE (putE K e))):=by
 show(if(kvE K).length<=1000000 then some (S.od (putD (kvE K) (kP e.w) (valE e))) else none)=_
 rw[put_kvE,if_pos (by unfold kvE;rw[List.length_map];exact hl)]
theorem get_ok {i:Nat}{fk:DSt->M D}{sd:DSt}{K:List Ev}{e f:Ev}(h:sd[i]?=some (some (.od (kvE K))))(hk:fk sd=.ok (wE e))(hf:atW K e.w=some f):DL.eDGet i fk sd=.ok (valE f):=by
 unfold DL.eDGet
 rw[h]
 show(if true=true then _ else _)=_
 rw[if_pos rfl,hk,M.bind_ok,dget_E,hf]
 rfl
theorem notin_ok {i:Nat}{fk:DSt->M D}{sd:DSt}{K:List Ev}{e:Ev}(h:sd[i]?=some (some (.od (kvE K))))(hk:fk sd=.ok (wE e)):eDNotIn i fk sd=.ok (.bl (!(atW K e.w).isSome)):=by
 unfold eDNotIn
 rw[h]
 show(if true=true then _ else _)=_
 rw[if_pos rfl,hk,M.bind_ok,dhas_E]
def imX (z a b i:Int):Int:=(if i % 2=1 then z*b - a else a)+i*z*b
def img (W H:Int)(p:Po4)(i j:Int):Po4:=⟨imX W p.a p.b i,p.b,imX H p.c p.d j,p.d⟩
theorem fr_im {k:Nat}{z a b i:Int}(h:Fr k a b)(hz:z.natAbs<=10)(hi:i.natAbs<=10)(hk:2<=k):Fr (k+4) (imX z a b i) b:=by
 have h0:(10:Nat) ^ 1=10:=rfl
 have a1:(z*b).natAbs<=10 ^ (k+1):=Nat.le_trans (mul_le' (j:=1) (k:=k) (by rw[h0];exact hz) h.bot) (ten_le (by lia))
 have a2:a.natAbs<=10 ^ (k+1):=Nat.le_trans h.top (ten_le (by lia))
 have a3:(if i % 2=1 then z*b - a else a).natAbs<=10 ^ (k+2):=by
  split
  ·exact sub_le' a1 a2
  ·exact Nat.le_trans a2 (ten_le (by lia))
 have a4:(i*z*b).natAbs<=10 ^ (k+2):=Nat.le_trans (mul_le' (j:=2) (k:=k) (mul_le' (j:=1) (k:=1) (by rw[h0];exact hi) (by rw[h0];exact hz)) h.bot) (ten_le (by lia))
 exact⟨h.pos,Nat.le_trans (add_le' a3 a4) (ten_le (by lia)),Nat.le_trans h.bot (ten_le (by lia))⟩
theorem img_ok {k:Nat}{W H:Int}{p:Po4}{i j:Int}(h:PoOk k p)(hW:W.natAbs<=10)(hH:H.natAbs<=10)(hi:i.natAbs<=10)(hj:j.natAbs<=10)(hk:2<=k):PoOk (k+4) (img W H p i j):=⟨fr_im h.x hW hi hk,fr_im h.y hH hj hk⟩
theorem odd_t (i:Int)(sd:DSt)(h:eVar 2 sd=.ok (.int i)):DL.tB (eOp gEq (eOp gMod (eVar 2) (eC (.int 2))) (eC (.int 1))) sd=.ok (decide (i % 2=1)) :=
 tB_b ((op_ok (op_ok h rfl (gM (i:=i) (j:=2) (by decide))) rfl (eq_int _ _)).trans (by congr 2))
theorem f_fold {k:Nat}{z a b i:Int}(h:Fr k a b)(hz:z.natAbs<=10)(hi:i.natAbs<=10)(hk:2<=k)(hk':k<=100):∃p q,F_folded_out [.int z,nD a b,.int i]=.ok (.im (nD p q))/\Fr (k+k+k+k+10) p q/\p*b=imX z a b i*q:=by
 have h0:(10:Nat) ^ 1=10:=rfl
 have sz:sm z=true:=sm_of (k:=1) (by rw[h0];exact hz) (by lia)
 have si:sm i=true:=sm_of (k:=1) (by rw[h0];exact hi) (by lia)
 have z1:Fr k z 1:=⟨by decide,Nat.le_trans hz (Nat.le_trans (by decide) (ten_le (j:=1) (by lia))),Nat.le_trans (by decide) (ten_le (j:=1) (by lia))⟩
 have biz:(i*z).natAbs<=10 ^ 2:=mul_le' (j:=1) (k:=1) (by rw[h0];exact hi) (by rw[h0];exact hz)
 have i1:Fr (k+k+1) (i*z) 1:=⟨by decide,Nat.le_trans biz (ten_le (by lia)),Nat.le_trans (by decide) (ten_le (j:=1) (by lia))⟩
 have tt:=odd_t i [some (.im (.int z)),some (.im (nD a b)),some (.im (.int i)),none] rfl
 have rest:∀{u v:Int},Fr (k+k+1) u v->u*b=(if i % 2=1 then z*b - a else a)*v->∃p q,fin' (sRet (eCall F_plus (aCons (eTup (aCons (eOp gTimes (eVar 2) (eVar 0)) (aCons (eC (.int 1)) aNil))) (aCons (eVar 3) aNil))) [some (.im (.int z)),some (.im (nD a b)),some (.im (.int i)),some (.im (nD u v))])=.ok (.im (nD p q))/\Fr (k+k+k+k+10) p q/\p*b=imX z a b i*q:=fun {u v} hu e=>by
  obtain⟨p,q,e1,r,m,c⟩:=low_fr (fr_add i1 hu)
  refine⟨p,q,fin_of (ret_ok (call_ok (aC (tup2 (op_ok rfl rfl (gT si sz)) rfl) (a1 rfl)) (f_plus i1 hu (by lia)) (by rw[e1];rfl))),r.mono (by lia),?_⟩
  have hv:v≠0:=by have:=hu.pos;lia
  refine Int.eq_of_mul_eq_mul_right hv ?_
  unfold imX
  generalize (if i % 2=1 then z*b - a else a)=y at e ⊢
  rw[Int.one_mul,Int.mul_one] at m
  have:p*b*v=(p*v)*b:=Int.mul_right_comm _ _ _
  rw[this,m,Int.mul_right_comm,Int.add_mul,e,Int.mul_right_comm (i*z) v b,<-Int.add_mul,Int.mul_right_comm,Int.add_comm (i*z*b) y]
 by_cases hd:i % 2=1
 ·obtain⟨u,v,e1,r,m,c⟩:=low_fr (fr_sub z1 h)
  rw[if_pos hd] at rest
  obtain⟨p,q,e2,r2,m2⟩:=rest r (by rw[Int.one_mul,Int.mul_one] at m;exact m)
  refine⟨p,q,(fn3 _ _ _ _ _).trans ?_,r2,m2⟩
  rw[<-e2]
  exact congrArg fin' (go (set_ok (d:=nD u v) (eif_t (tt.trans (by rw[decide_eq_true hd])) (call_ok (aC (tup2 rfl rfl) (a1 rfl)) (f_minus z1 h (by lia)) (by rw[e1];rfl)))) rfl)
 ·rw[if_neg hd] at rest
  obtain⟨p,q,e2,r2,m2⟩:=rest (h.mono (by lia)) rfl
  refine⟨p,q,(fn3 _ _ _ _ _).trans ?_,r2,m2⟩
  rw[<-e2]
  exact congrArg fin' (go (set_ok (d:=nD a b) (eif_f (tt.trans (by rw[decide_eq_false hd])) rfl)) rfl)
end Law
set_option maxRecDepth 100000
set_option maxHeartbeats 4000000
set_option linter.all false
namespace Law
open PySem L2 DL
theorem PoOk.mono {j k:Nat}{p:Po4}(h:PoOk j p)(hk:j<=k):PoOk k p:=⟨h.x.mono hk,h.y.mono hk⟩
def cD (c:Pr):D:=.tup [.int c.1,.int c.2]
theorem f_image_at {k:Nat}{W H:Int}{p:Po4}{i j:Int}(h:PoOk k p)(hW:W.natAbs<=10)(hH:H.natAbs<=10)(hi:i.natAbs<=10)(hj:j.natAbs<=10)(hk:2<=k)(hk':k<=100) :
  ∃q:Po4,F_image_at [.int W,.int H,p.D,cD (i,j)]=.ok (.im q.D)/\PoOk (k+k+k+k+10) q/\q.a*p.b=(img W H p i j).a*q.b/\q.c*p.d=(img W H p i j).c*q.d:=by
 obtain⟨a,b,e1,r1,m1⟩:=f_fold (z:=W) (i:=i) h.x hW hi hk hk'
 obtain⟨c,d,e2,r2,m2⟩:=f_fold (z:=H) (i:=j) h.y hH hj hk hk'
 refine⟨⟨a,b,c,d⟩,?_,⟨r1,r2⟩,m1,m2⟩
 exact(fn4 _ _ _ _ _ _).trans (fin_of (ret_ok (tup2 (call_ok (aC rfl (aC (ixt_ok rfl rfl (atI0 _ _)) (a1 (ixt_ok rfl rfl (atI0 _ _))))) e1 rfl) (call_ok (aC rfl (aC (ixt_ok rfl rfl (atI1 _ _ _)) (a1 (ixt_ok rfl rfl (atI1 _ _ _))))) e2 rfl))))
def nL (t b:Int):Int:=t / (Int.gcd t b:Nat)
def dL (t b:Int):Int:=b / (Int.gcd t b:Nat)
theorem nd_spec {t b:Int}(hb:0<b):0<dL t b/\nL t b*b=t*dL t b/\Int.gcd (nL t b) (dL t b)=1:=by
 obtain⟨p,q,e,h1,h2,h3,_⟩:=low_spec (t:=t) hb
 have e:nD (nL t b) (dL t b)=nD p q:=e
 unfold nD at e
 injection e with e
 injection e with ea eb
 injection eb with eb _
 injection ea with ea
 injection eb with eb
 rw[ea,eb]
 exact⟨h1,h2,h3⟩
theorem nd_fr {k:Nat}{t b:Int}(h:Fr k t b):Fr k (nL t b) (dL t b):=by
 obtain⟨p,q,e,r,_⟩:=low_fr h
 have e:nD (nL t b) (dL t b)=nD p q:=e
 unfold nD at e
 injection e with e
 injection e with ea eb
 injection eb with eb _
 injection ea with ea
 injection eb with eb
 rw[ea,eb]
 exact r
def evP (v:Vc)(x:List D):Ev:=⟨wy v.P v.Q,nL (ab1 v) v.N,dL (ab1 v) v.N,x⟩
structure VOk (k:Nat) (v:Vc):Prop where
 N:0<v.N
 p:v.P.natAbs<=10 ^ k
 q:v.Q.natAbs<=10 ^ k
 n:v.N.natAbs<=10 ^ k
theorem vec_ok {k:Nat}{o p:Po4}(ho:PoOk k o)(hp:PoOk k p):VOk (k+k+1+(k+k)) (vec o p) :=
 ⟨vec_pos ho.x.pos ho.y.pos hp.x.pos hp.y.pos,mul_le' (fr_sub hp.x ho.x).top (mul_le' hp.y.bot ho.y.bot),mul_le' (fr_sub hp.y ho.y).top (mul_le' hp.x.bot ho.x.bot),Nat.le_trans (mul_le' (mul_le' hp.x.bot ho.x.bot) (mul_le' hp.y.bot ho.y.bot)) (ten_le (by lia))⟩
theorem evP_fr {k:Nat}{v:Vc}{x:List D}(h:VOk k v):FrE (k+1) (evP v x):=by
 refine nd_fr ⟨h.N,?_,Nat.le_trans h.n (ten_le (by lia))⟩
 unfold ab1
 exact add_le' (by rw[Int.natAbs_natCast];exact h.p) (by rw[Int.natAbs_natCast];exact h.q)
theorem foldl_len:∀(es K:List Ev),(es.foldl updE K).length<=K.length+es.length
 |[],K=>by simp
 |e::es,K=>by
  have:=foldl_len es (updE K e)
  have:=updE_len K e
  rw[List.foldl_cons,List.length_cons]
  lia
theorem updE_mem {K:List Ev}{e f:Ev}(h:f∈updE K e):f=e\/f∈K:=by
 unfold updE at h
 have pm:f∈putE K e->f=e\/f∈K:=fun h=>by
  rcases putE_mem h with h|h
  ·exact .inl h
  ·exact .inr h.1
 split at h
 ·exact pm h
 ·split at h
  ·exact pm h
  ·exact .inr h
theorem foldl_mem:∀(es K:List Ev) (f:Ev),f∈es.foldl updE K->f∈es\/f∈K
 |[],K,f,h=>.inr h
 |e::es,K,f,h=>by
  rcases foldl_mem es (updE K e) f h with h|h
  ·exact .inl (List.mem_cons_of_mem _ h)
  ·rcases updE_mem h with rfl|h
   ·exact .inl List.mem_cons_self
   ·exact .inr h
theorem Told.fold:∀(es K L:List Ev),Told K L->(∀e∈L,EvOk e)->(∀e∈es,EvOk e)->Told (es.foldl updE K) (L++es)
 |[],K,L,t,_,_=>by simpa using t
 |e::es,K,L,t,hL,he=>by
  have h1:=he e List.mem_cons_self
  have:=Told.fold es (updE K e) (L++[e]) (t.add hL h1) (fun f hf=>by
   rcases List.mem_append.mp hf with h|h
   ·exact hL f h
   ·have:f=e:=by simpa using h
    rw[this];exact h1) fun f hf=>he f (List.mem_cons_of_mem _ hf)
  rw[List.append_assoc] at this
  exact this
noncomputable def uBody:DSt->M O:=sIf (DL.tO (DL.tB (eDNotIn 5 (eVar 12))) (DL.tB (eCall F_below (aCons (eVar 13) (aCons (eOp gIx (DL.eDGet 5 (eVar 12)) (eC (.int 0))) aNil))))) (DL.sDPut 5 (eVar 12) (eTup (aCons (eVar 13) (aCons (eVar 9) (aCons (eVar 10) aNil))))) sNil
theorem u_turn {k:Nat}{K:List Ev}{e:Ev}{wd wh:D}(hx:e.x=[wd,wh])(hK:∀f∈K,FrE k f)(he:FrE k e)(hk:k<=400)(hl:K.length<=100000)(s0 s1 s2 s3 s4 s6 s7 s8 s11:Option S) :
  uBody [s0,s1,s2,s3,s4,some (.od (kvE K)),s6,s7,s8,some (.im wd),some (.im wh),s11,some (.im (wE e)),some (.im (nD e.n e.d))] =
   .ok (.nx [s0,s1,s2,s3,s4,some (.od (kvE (updE K e))),s6,s7,s8,some (.im wd),some (.im wh),s11,some (.im (wE e)),some (.im (nD e.n e.d))]):=by
 have ev:valE e=.tup [nD e.n e.d,wd,wh]:=by unfold valE;rw[hx]
 have pt:DL.sDPut 5 (eVar 12) (eTup (aCons (eVar 13) (aCons (eVar 9) (aCons (eVar 10) aNil)))) [s0,s1,s2,s3,s4,some (.od (kvE K)),s6,s7,s8,some (.im wd),some (.im wh),s11,some (.im (wE e)),some (.im (nD e.n e.d))]=.ok (.nx [s0,s1,s2,s3,s4,some (.od (kvE (putE K e))),s6,s7,s8,some (.im wd),some (.im wh),s11,some (.im (wE e)),some (.im (nD e.n e.d))]) :=
  dput_ok (kv:=kvE K) (k:=wE e) (v:=valE e) rfl (by rw[ev];unfold eTup;rw[aC rfl (aC rfl (a1 rfl))];rfl) rfl (dput_E e (by lia))
 have ni:=notin_ok (i:=5) (fk:=eVar 12) (sd:=[s0,s1,s2,s3,s4,some (.od (kvE K)),s6,s7,s8,some (.im wd),some (.im wh),s11,some (.im (wE e)),some (.im (nD e.n e.d))]) (K:=K) (e:=e) rfl rfl
 unfold updE uBody
 cases q:atW K e.w with
 |none =>
  rw[q] at ni
  exact if_take (tO_t (tB_b ni)) pt
 |some f =>
  rw[q] at ni
  have hf:=hK f (atW_some q).1
  have fb:=f_below he hf hk
  have ge:=get_ok (i:=5) (fk:=eVar 12) (sd:=[s0,s1,s2,s3,s4,some (.od (kvE K)),s6,s7,s8,some (.im wd),some (.im wh),s11,some (.im (wE e)),some (.im (nD e.n e.d))]) (K:=K) (e:=e) rfl rfl q
  have tt:DL.tO (DL.tB (eDNotIn 5 (eVar 12))) (DL.tB (eCall F_below (aCons (eVar 13) (aCons (eOp gIx (DL.eDGet 5 (eVar 12)) (eC (.int 0))) aNil)))) [s0,s1,s2,s3,s4,some (.od (kvE K)),s6,s7,s8,some (.im wd),some (.im wh),s11,some (.im (wE e)),some (.im (nD e.n e.d))]=.ok (decide (e.n*f.d<f.n*e.d)):=tO_f (tB_b ni) (tB_b (call_ok (aC rfl (a1 (ixt_ok ge rfl (atI0 _ _)))) fb rfl))
  dsimp only
  by_cases h:e.n*f.d<f.n*e.d
  ·rw[if_pos h]
   exact if_take (tt.trans (by rw[decide_eq_true h])) pt
  ·rw[if_neg h]
   exact if_skip (tt.trans (by rw[decide_eq_false h]))
end Law
set_option maxRecDepth 100000
set_option maxHeartbeats 4000000
set_option linter.all false
namespace Law
open PySem L2 DL
noncomputable def pBody:DSt->M O:=(sSeq (sSet 11 (eCall F_step_to (aCons (eOp gIx (eVar 2) (eVar 3)) (aCons (eCall F_image_at (aCons (eVar 0) (aCons (eVar 1) (aCons (eVar 8) (aCons (eVar 7) aNil))))) aNil))))
   (sIf (DL.tB (eUn (gNe4 0 1 0 1) (eVar 11))) (sSeq (sSet 12 (eCall F_direction (aCons (eVar 11) aNil)))
   (sSeq (sSet 13 (eCall F_length (aCons (eVar 11) aNil)))
   uBody)) sNil))
theorem un_ok {g:D->M D}{f:DSt->M D}{sd:DSt}{d:D}{r:M D}(h:f sd=.ok d)(h2:g d=r):eUn g f sd=r:=by unfold eUn;rw[h];exact h2
structure Th where
 p:Po4
 wd:D
 wh:D
def Th.D (t:Th):D:=.tup [t.p.D,t.wd,t.wh]
def pev (o:Po4)(W H:Int)(c:Pr)(t:Th):Option Ev:=if(vec o (img W H t.p c.1 c.2)).nz then some (evP (vec o (img W H t.p c.1 c.2)) [t.wd,t.wh]) else none
structure Sz (W H:Int):Prop where
 w0:1<=W
 w1:W<=8
 h0:1<=H
 h1:H<=8
def CellOk (c:Pr):Prop:=c.1.natAbs<=4/\c.2.natAbs<=4
theorem to_image {W H:Int}(z:Sz W H){o p:Po4}(ho:PoOk 4 o)(hp:PoOk 4 p){c:Pr}(hc:CellOk c){f2:DSt->M D}{sd:DSt}(h0:eVar 0 sd=.ok (.int W))(h1:eVar 1 sd=.ok (.int H)){fo fp fc:DSt->M D}(eo:fo sd=.ok o.D)(ep:fp sd=.ok p.D)(ec:fc sd=.ok (cD c)) :
  ∃s t u v,eCall F_step_to (aCons fo (aCons (eCall F_image_at (aCons (eVar 0) (aCons (eVar 1) (aCons fp (aCons fc aNil))))) aNil)) sd=.ok (.tup [nD s t,nD u v]) /\
   gNe4 0 1 0 1 (.tup [nD s t,nD u v])=.ok (.bl (decide (vec o (img W H p c.1 c.2)).nz))/\((vec o (img W H p c.1 c.2)).nz->F_direction [.tup [nD s t,nD u v]]=.ok (.im (wD (vec o (img W H p c.1 c.2))))/\F_length [.tup [nD s t,nD u v]]=.ok (.im (farP (vec o (img W H p c.1 c.2))))):=by
 have hW:W.natAbs<=10:=by have:=z.w0;have:=z.w1;lia
 have hH:H.natAbs<=10:=by have:=z.h0;have:=z.h1;lia
 have hi:c.1.natAbs<=10:=by have:=hc.1;lia
 have hj:c.2.natAbs<=10:=by have:=hc.2;lia
 obtain⟨q,e1,r1,m1,m2⟩:=f_image_at (W:=W) (H:=H) (i:=c.1) (j:=c.2) hp hW hH hi hj (by decide) (by decide)
 have ri:=(img_ok (W:=W) (H:=H) (i:=c.1) (j:=c.2) hp hW hH hi hj (by decide)).mono (k:=26) (by decide)
 have ro:=ho.mono (k:=26) (by decide)
 have e2:=f_step (p:=img W H p c.1 c.2) ro (r1.mono (k:=26) (by decide)) (by decide) ri.x.pos ri.y.pos m1 m2
 obtain⟨s,t,u,v,l1,l2,f1,f2⟩:=step_facts (k:=26) ro ri (by decide)
 rw[l1,l2] at e2
 exact⟨s,t,u,v,call_ok (aC eo (a1 (call_ok (aC h0 (aC h1 (aC ep (a1 ec)))) e1 rfl))) e2 rfl,f1,f2⟩
theorem vi_ok {W H:Int}(z:Sz W H){o p:Po4}(ho:PoOk 4 o)(hp:PoOk 4 p){c:Pr}(hc:CellOk c):VOk 120 (vec o (img W H p c.1 c.2)):=by
 have ri:=(img_ok (W:=W) (H:=H) (i:=c.1) (j:=c.2) hp (by have:=z.w0;have:=z.w1;lia) (by have:=z.h0;have:=z.h1;lia) (by have:=hc.1;lia) (by have:=hc.2;lia) (by decide)).mono (k:=26) (by decide)
 have v:=vec_ok (ho.mono (k:=26) (by decide)) ri
 exact⟨v.N,Nat.le_trans v.p (ten_le (by decide)),Nat.le_trans v.q (ten_le (by decide)),Nat.le_trans v.n (ten_le (by decide))⟩
theorem p_turn {W H:Int}(z:Sz W H){o:Po4}(ho:PoOk 4 o){t:Th}(hp:PoOk 4 t.p){c:Pr}(hc:CellOk c){ps:List D}{one:Int}(eo:atI ps one=some o.D){K:List Ev}(hK:∀f∈K,FrE 121 f)(hl:K.length<=100000)(s4 s6 s11 s12 s13:Option S) :
  ∃t11 t12 t13,pBody [some (.im (.int W)),some (.im (.int H)),some (.im (.lst ps)),some (.im (.int one)),s4,some (.od (kvE K)),s6,some (.im (cD c)),some (.im t.p.D),some (.im t.wd),some (.im t.wh),s11,s12,s13] =
   .ok (.nx [some (.im (.int W)),some (.im (.int H)),some (.im (.lst ps)),some (.im (.int one)),s4,some (.od (kvE ((pev o W H c t).toList.foldl updE K))),s6,some (.im (cD c)),some (.im t.p.D),some (.im t.wd),some (.im t.wh),t11,t12,t13]):=by
 obtain⟨s,tt,u,v,e1,f1,f2⟩:=to_image z ho hp hc (f2:=eVar 0) (sd:=[some (.im (.int W)),some (.im (.int H)),some (.im (.lst ps)),some (.im (.int one)),s4,some (.od (kvE K)),s6,some (.im (cD c)),some (.im t.p.D),some (.im t.wd),some (.im t.wh),s11,s12,s13]) rfl rfl (fo:=eOp gIx (eVar 2) (eVar 3)) (fp:=eVar 8) (fc:=eVar 7) (ix_ok rfl rfl eo) rfl rfl
 unfold pev
 by_cases hz:(vec o (img W H t.p c.1 c.2)).nz
 ·obtain⟨d1,d2⟩:=f2 hz
  rw[if_pos hz]
  have ut:=u_turn (k:=121) (K:=K) (e:=evP (vec o (img W H t.p c.1 c.2)) [t.wd,t.wh]) rfl hK (evP_fr (vi_ok z ho hp hc)) (by decide) hl (some (.im (.int W))) (some (.im (.int H))) (some (.im (.lst ps))) (some (.im (.int one))) s4 s6 (some (.im (cD c))) (some (.im t.p.D)) (some (.im (.tup [nD s tt,nD u v])))
  refine⟨_,_,_,go (set_ok e1) ((if_take (tB_b (un_ok rfl (f1.trans (by rw[decide_eq_true hz])))) (go (set_ok (call_ok (a1 rfl) d1 rfl)) (go (set_ok (call_ok (a1 rfl) d2 rfl)) ut))))⟩
 ·rw[if_neg hz]
  exact⟨_,_,_,go (set_ok e1) (if_skip (tB_b (un_ok rfl (f1.trans (by rw[decide_eq_false hz])))))⟩
theorem pev_fr {W H:Int}(z:Sz W H){o:Po4}(ho:PoOk 4 o){t:Th}(hp:PoOk 4 t.p){c:Pr}(hc:CellOk c){e:Ev}(h:e∈(pev o W H c t).toList):FrE 121 e:=by
 unfold pev at h
 split at h
 ·have:e=evP (vec o (img W H t.p c.1 c.2)) [t.wd,t.wh]:=by simpa using h
  rw[this]
  exact evP_fr (vi_ok z ho hp hc)
 ·cases h
def pevs (o:Po4)(W H:Int)(T:List Th)(c:Pr):List Ev:=T.flatMap fun t=>(pev o W H c t).toList
theorem tn_len {α:Type}(o:Option α):o.toList.length<=1:=by cases o<;>simp
theorem pevs_len (o:Po4)(W H:Int)(c:Pr):∀T:List Th,(pevs o W H T c).length<=T.length
 |[]=>by simp[pevs]
 |t::T=>by
  have:=pevs_len o W H c T
  have:=tn_len (pev o W H c t)
  unfold pevs at *
  rw[List.flatMap_cons,List.length_append,List.length_cons]
  lia
noncomputable def gT3:D->DSt->M DSt:=gTupD 3 (gsCons (gNm 8) (gsCons (gNm 9) (gsCons (gNm 10) gsNil)))
theorem p_loop {W H:Int}(z:Sz W H){o:Po4}(ho:PoOk 4 o){c:Pr}(hc:CellOk c){ps:List D}{one:Int}(eo:atI ps one=some o.D)(s4 s6:Option S):∀(T:List Th) (K:List Ev) (s8 s9 s10 s11 s12 s13:Option S),(∀t∈T,PoOk 4 t.p)->(∀f∈K,FrE 121 f)->K.length+T.length<=100000 ->
  ∃t8 t9 t10 t11 t12 t13,loopD gT3 pBody (T.map Th.D) [some (.im (.int W)),some (.im (.int H)),some (.im (.lst ps)),some (.im (.int one)),s4,some (.od (kvE K)),s6,some (.im (cD c)),s8,s9,s10,s11,s12,s13] =
   .ok (.nx [some (.im (.int W)),some (.im (.int H)),some (.im (.lst ps)),some (.im (.int one)),s4,some (.od (kvE ((pevs o W H T c).foldl updE K))),s6,some (.im (cD c)),t8,t9,t10,t11,t12,t13])
 |[],K,s8,s9,s10,s11,s12,s13,_,_,_=>⟨s8,s9,s10,s11,s12,s13,rfl⟩
 |t::T,K,s8,s9,s10,s11,s12,s13,hT,hK,hl=>by
  rw[List.length_cons] at hl
  obtain⟨t11,t12,t13,e1⟩:=p_turn z ho (hT t List.mem_cons_self) hc eo hK (by lia) s4 s6 s11 s12 s13
  have hK':∀f∈(pev o W H c t).toList.foldl updE K,FrE 121 f:=fun f hf=>by
   rcases foldl_mem _ _ _ hf with h|h
   ·exact pev_fr z ho (hT t List.mem_cons_self) hc h
   ·exact hK f h
  have hl':=foldl_len (pev o W H c t).toList K
  have:=tn_len (pev o W H c t)
  obtain⟨u8,u9,u10,u11,u12,u13,e2⟩:=p_loop z ho hc eo s4 s6 T _ (some (.im t.p.D)) (some (.im t.wd)) (some (.im t.wh)) t11 t12 t13 (fun x hx=>hT x (List.mem_cons_of_mem _ hx)) hK' (by lia)
  refine⟨u8,u9,u10,u11,u12,u13,?_⟩
  have ef:(pevs o W H (t::T) c).foldl updE K=(pevs o W H T c).foldl updE ((pev o W H c t).toList.foldl updE K):=by
   unfold pevs
   rw[List.flatMap_cons,List.foldl_append]
  rw[List.map_cons,ef]
  exact(loop_nx (sd1:=[some (.im (.int W)),some (.im (.int H)),some (.im (.lst ps)),some (.im (.int one)),s4,some (.od (kvE K)),s6,some (.im (cD c)),some (.im t.p.D),some (.im t.wd),some (.im t.wh),s11,s12,s13]) rfl e1).trans e2
end Law
set_option maxRecDepth 100000
set_option maxHeartbeats 4000000
set_option linter.all false
namespace Law
open PySem L2 DL
def cellsL (m:Nat):List Pr:=(List.range (2*m+1)).flatMap fun(x:Nat)=>(List.range (2*(m - ((x:Int) - (m:Int)).natAbs)+1)).map fun(y:Nat)=>((x:Int) - (m:Int),(y:Int) - ((m - ((x:Int) - (m:Int)).natAbs:Nat):Int))
theorem f_cellsP:∀m:Nat,m<=4->F_cells_within [.int (m:Int)]=.ok (.ow ((cellsL m).map cD))
 |0,_=>rfl
 |1,_=>rfl
 |2,_=>rfl
 |3,_=>rfl
 |4,_=>rfl
 |m+5,h=>by lia
instance (c:Pr):Decidable (CellOk c):=by unfold CellOk;exact inferInstance
theorem cells_ok:∀m:Nat,m<=4->∀c∈cellsL m,CellOk c
 |0,_=>by decide
 |1,_=>by decide
 |2,_=>by decide
 |3,_=>by decide
 |4,_=>by decide
 |m+5,h=>by lia
def ltC (c d:Pr):Prop:=c.1<d.1\/(c.1=d.1/\c.2<d.2)
instance (c d:Pr):Decidable (ltC c d):=by unfold ltC;exact inferInstance
theorem cells_lt:∀m:Nat,m<=4->(cellsL m).Pairwise ltC
 |0,_=>by decide
 |1,_=>by decide
 |2,_=>by decide
 |3,_=>by decide +kernel
 |4,_=>by decide +kernel
 |m+5,h=>by lia
theorem cells_len:∀m:Nat,m<=4->(cellsL m).length<=41
 |0,_=>by decide
 |1,_=>by decide
 |2,_=>by decide
 |3,_=>by decide
 |4,_=>by decide
 |m+5,h=>by lia
def rimL (W H:Nat):List Pr:=(List.range (W+1)).flatMap fun(x:Nat)=>((List.range (H+1)).filter fun(y:Nat)=>(x==0||x==W)||(y==0||y==H)).map fun(y:Nat)=>((x:Int),(y:Int))
def rP (c:Pr):Po4:=⟨c.1,1,c.2,1⟩
theorem rim_1:∀H:Nat,1<=H->H<=8->F_rim_points [.int ((1:Nat):Int),.int (H:Int)]=.ok (.ow ((rimL 1 H).map fun c=>(rP c).D))
 |0,h,_=>by lia
 |1,_,_=>rfl
 |2,_,_=>rfl
 |3,_,_=>rfl
 |4,_,_=>rfl
 |5,_,_=>rfl
 |6,_,_=>rfl
 |7,_,_=>rfl
 |8,_,_=>rfl
 |H+9,_,h=>by lia
theorem rim_2:∀H:Nat,1<=H->H<=8->F_rim_points [.int ((2:Nat):Int),.int (H:Int)]=.ok (.ow ((rimL 2 H).map fun c=>(rP c).D))
 |0,h,_=>by lia
 |1,_,_=>rfl
 |2,_,_=>rfl
 |3,_,_=>rfl
 |4,_,_=>rfl
 |5,_,_=>rfl
 |6,_,_=>rfl
 |7,_,_=>rfl
 |8,_,_=>rfl
 |H+9,_,h=>by lia
theorem rim_3:∀H:Nat,1<=H->H<=8->F_rim_points [.int ((3:Nat):Int),.int (H:Int)]=.ok (.ow ((rimL 3 H).map fun c=>(rP c).D))
 |0,h,_=>by lia
 |1,_,_=>rfl
 |2,_,_=>rfl
 |3,_,_=>rfl
 |4,_,_=>rfl
 |5,_,_=>rfl
 |6,_,_=>rfl
 |7,_,_=>rfl
 |8,_,_=>rfl
 |H+9,_,h=>by lia
theorem rim_4:∀H:Nat,1<=H->H<=8->F_rim_points [.int ((4:Nat):Int),.int (H:Int)]=.ok (.ow ((rimL 4 H).map fun c=>(rP c).D))
 |0,h,_=>by lia
 |1,_,_=>rfl
 |2,_,_=>rfl
 |3,_,_=>rfl
 |4,_,_=>rfl
 |5,_,_=>rfl
 |6,_,_=>rfl
 |7,_,_=>rfl
 |8,_,_=>rfl
 |H+9,_,h=>by lia
theorem rim_5:∀H:Nat,1<=H->H<=8->F_rim_points [.int ((5:Nat):Int),.int (H:Int)]=.ok (.ow ((rimL 5 H).map fun c=>(rP c).D))
 |0,h,_=>by lia
 |1,_,_=>rfl
 |2,_,_=>rfl
 |3,_,_=>rfl
 |4,_,_=>rfl
 |5,_,_=>rfl
 |6,_,_=>rfl
 |7,_,_=>rfl
 |8,_,_=>rfl
 |H+9,_,h=>by lia
theorem rim_6:∀H:Nat,1<=H->H<=8->F_rim_points [.int ((6:Nat):Int),.int (H:Int)]=.ok (.ow ((rimL 6 H).map fun c=>(rP c).D))
 |0,h,_=>by lia
 |1,_,_=>rfl
 |2,_,_=>rfl
 |3,_,_=>rfl
 |4,_,_=>rfl
 |5,_,_=>rfl
 |6,_,_=>rfl
 |7,_,_=>rfl
 |8,_,_=>rfl
 |H+9,_,h=>by lia
theorem rim_7:∀H:Nat,1<=H->H<=8->F_rim_points [.int ((7:Nat):Int),.int (H:Int)]=.ok (.ow ((rimL 7 H).map fun c=>(rP c).D))
 |0,h,_=>by lia
 |1,_,_=>rfl
 |2,_,_=>rfl
 |3,_,_=>rfl
 |4,_,_=>rfl
 |5,_,_=>rfl
 |6,_,_=>rfl
 |7,_,_=>rfl
 |8,_,_=>rfl
 |H+9,_,h=>by lia
theorem rim_8:∀H:Nat,1<=H->H<=8->F_rim_points [.int ((8:Nat):Int),.int (H:Int)]=.ok (.ow ((rimL 8 H).map fun c=>(rP c).D))
 |0,h,_=>by lia
 |1,_,_=>rfl
 |2,_,_=>rfl
 |3,_,_=>rfl
 |4,_,_=>rfl
 |5,_,_=>rfl
 |6,_,_=>rfl
 |7,_,_=>rfl
 |8,_,_=>rfl
 |H+9,_,h=>by lia
theorem f_rim (W H:Nat)(w0:1<=W)(w1:W<=8)(h0:1<=H)(h1:H<=8):F_rim_points [.int (W:Int),.int (H:Int)]=.ok (.ow ((rimL W H).map fun c=>(rP c).D)):=by
 rcases(by lia:W=1\/W=2\/W=3\/W=4\/W=5\/W=6\/W=7\/W=8) with rfl|rfl|rfl|rfl|rfl|rfl|rfl|rfl
 ·exact rim_1 H h0 h1
 ·exact rim_2 H h0 h1
 ·exact rim_3 H h0 h1
 ·exact rim_4 H h0 h1
 ·exact rim_5 H h0 h1
 ·exact rim_6 H h0 h1
 ·exact rim_7 H h0 h1
 ·exact rim_8 H h0 h1
theorem rim_mem {W H:Nat}{c:Pr}:c∈rimL W H↔0<=c.1/\c.1<=W/\0<=c.2/\c.2<=H/\(c.1=0\/c.1=W\/c.2=0\/c.2=H):=by
 unfold rimL
 rw[List.mem_flatMap]
 constructor
 ·rintro⟨x,hx,h⟩
  obtain⟨y,hy,rfl⟩:=List.mem_map.mp h
  obtain⟨h1,h2⟩:=List.mem_filter.mp hy
  have a1:=List.mem_range.mp hx
  have a2:=List.mem_range.mp h1
  simp only[Bool.or_eq_true,beq_iff_eq] at h2
  dsimp only
  lia
 ·rintro⟨h1,h2,h3,h4,h5⟩
  refine⟨c.1.toNat,List.mem_range.mpr (by lia),List.mem_map.mpr ⟨c.2.toNat,List.mem_filter.mpr ⟨List.mem_range.mpr (by lia),?_⟩,?_⟩⟩
  ·simp only[Bool.or_eq_true,beq_iff_eq]
   lia
  ·exact Prod.ext (by dsimp only;lia) (by dsimp only;lia)
end Law
set_option maxRecDepth 100000
set_option maxHeartbeats 4000000
set_option linter.all false
namespace Law
open PySem L2 DL
theorem rim_len:∀W:Nat,W<9->∀H:Nat,H<9->(rimL W H).length<=81:=by decide +kernel
def sCorner:D:=.str (Str.ofString "corner")
def sPerson:D:=.str (Str.ofString "person")
def sSeen:D:=.str (Str.ofString "seen")
def rT (c:Pr):Th:=⟨rP c,sCorner,.non⟩
def enumP:Nat->List Po4->List Th
 |_,[]=>[]
 |n,p::r=>⟨p,sPerson,.int (n:Int)⟩::enumP (n+1) r
def things (W H:Nat)(ps:List Po4):List Th:=(rimL W H).map rT++enumP 0 ps
theorem enumP_len:∀(n:Nat) (ps:List Po4),(enumP n ps).length=ps.length
 |_,[]=>rfl
 |n,p::r=>by rw[enumP,List.length_cons,List.length_cons,enumP_len]
theorem enumP_mem:∀(n:Nat) (ps:List Po4) (t:Th),t∈enumP n ps↔∃j p,ps[j]?=some p/\t=⟨p,sPerson,.int ((n+j:Nat):Int)⟩
 |n,[],t=>by
  constructor
  ·intro h;cases h
  ·rintro⟨j,p,h,_⟩;simp at h
 |n,q::r,t=>by
  rw[enumP,List.mem_cons,enumP_mem (n+1) r t]
  constructor
  ·rintro(rfl|⟨j,p,h,rfl⟩)
   ·exact⟨0,q,rfl,rfl⟩
   ·exact⟨j+1,p,by simpa using h,by rw[Nat.add_right_comm];rfl⟩
  ·rintro⟨j,p,h,rfl⟩
   cases j with
   |zero=>simp at h;subst h;exact .inl rfl
   |succ j=>exact .inr ⟨j,p,by simpa using h,by rw[Nat.add_right_comm];rfl⟩
theorem tup3 {fa fb fc:DSt->M D}{sd:DSt}{a b c:D}(h1:fa sd=.ok a)(h2:fb sd=.ok b)(h3:fc sd=.ok c):eTup (aCons fa (aCons fb (aCons fc aNil))) sd=.ok (.tup [a,b,c]):=by
 unfold eTup;rw[aC h1 (aC h2 (a1 h3))];rfl
theorem enum_map {sd0:DSt}(h0:∃x y r,sd0=x::y::r):∀(n:Nat) (ps:List Po4),mapD (gTupD 2 (gsCons (gNm 0) (gsCons (gNm 1) gsNil))) (eTup (aCons (eVar 1) (aCons (eC (.str (Str.ofString "person"))) (aCons (eVar 0) aNil)))) sd0 (enumD n (ps.map Po4.D))=.ok ((enumP n ps).map Th.D)
 |n,[]=>rfl
 |n,p::r=>by
  obtain⟨x,y,w,rfl⟩:=h0
  have ih:=enum_map (sd0:=x::y::w) ⟨x,y,w,rfl⟩ (n+1) r
  rw[List.map_cons,enumP,List.map_cons]
  show mapD _ _ _ (.tup [.int (n:Int),p.D]::enumD (n+1) (r.map Po4.D))=_
  have h1:gTupD 2 (gsCons (gNm 0) (gsCons (gNm 1) gsNil)) (.tup [.int (n:Int),p.D]) (x::y::w)=.ok (some (.im (.int (n:Int)))::some (.im p.D)::w):=rfl
  have h2:eTup (aCons (eVar 1) (aCons (eC (.str (Str.ofString "person"))) (aCons (eVar 0) aNil))) (some (.im (.int (n:Int)))::some (.im p.D)::w)=.ok (Th.D ⟨p,sPerson,.int (n:Int)⟩):=tup3 rfl rfl rfl
  simp only[mapD,h1,h2,ih]
theorem f_things {W H:Nat}(w0:1<=W)(w1:W<=8)(h0:1<=H)(h1:H<=8){ps:List Po4}(hp:ps.length<=20):F_things_in [.int (W:Int),.int (H:Int),.lst (ps.map Po4.D)]=.ok (.im (.lst ((things W H ps).map Th.D))):=by
 have rl:=rim_len W (by lia) H (by lia)
 have c1:eNew (fComp (iSeq (eCall F_rim_points (aCons (eVar 0) (aCons (eVar 1) aNil)))) 1 [] (gNm 0) (eTup (aCons (eVar 0) (aCons (eC (.str (Str.ofString "corner"))) (aCons (eC .non) aNil))))) [some (.im (.int (W:Int))),some (.im (.int (H:Int))),some (.im (.lst (ps.map Po4.D))),none]=.ok (.lst ((rimL W H).map fun c=>(rT c).D)) :=
  new_ok (comp_ok (seq_l (call_ok (aC rfl (a1 rfl)) (f_rim W H w0 w1 h0 h1) rfl)) (by rw[List.length_map];lia) (mapQ (fun c=>(rP c).D) (fun c=>(rT c).D) (rimL W H) fun c _=>⟨_,rfl,tup3 rfl rfl rfl⟩))
 have c2:eNew (fComp (iEnum (aCons (eVar 2) aNil)) 2 [] (gTupD 2 (gsCons (gNm 0) (gsCons (gNm 1) gsNil))) (eTup (aCons (eVar 1) (aCons (eC (.str (Str.ofString "person"))) (aCons (eVar 0) aNil))))) [some (.im (.int (W:Int))),some (.im (.int (H:Int))),some (.im (.lst (ps.map Po4.D))),some (.im (.lst ((rimL W H).map fun c=>(rT c).D)))]=.ok (.lst ((enumP 0 ps).map Th.D)):=by
  refine new_ok (comp_ok (ds:=enumD 0 (ps.map Po4.D)) ?_ ?_ (enum_map ⟨none,none,[],rfl⟩ 0 ps))
  ·unfold iEnum;rw[a1 (d:=.lst (ps.map Po4.D)) rfl];rfl
  ·have:∀(n:Nat) (l:List D),(enumD n l).length=l.length:=fun n l=>by
    induction l generalizing n with
    |nil=>rfl
    |cons a l ih=>show(enumD (n+1) l).length+1=_;rw[ih];rfl
   rw[this,List.length_map];lia
 refine(fn3 _ _ _ _ _).trans (fin_of (go (set_ok c1) (ret_ok ((op_ok rfl c2 (plus_l (by rw[List.length_map,List.length_map,enumP_len];lia))).trans ?_))))
 unfold things
 rw[List.map_append,List.map_map]
 rfl
structure Hall (W H:Nat) (ps:List Po4) (one:Nat) (o:Po4) (m:Nat):Prop where
 w0:1<=W
 w1:W<=8
 h0:1<=H
 h1:H<=8
 ok:∀p∈ps,PoOk 4 p
 len:ps.length<=20
 me:ps[one]?=some o
 m4:m<=4
theorem Hall.sz {W H:Nat}{ps:List Po4}{one:Nat}{o:Po4}{m:Nat}(h:Hall W H ps one o m):Sz (W:Int) (H:Int):=⟨by have:=h.w0;lia,by have:=h.w1;lia,by have:=h.h0;lia,by have:=h.h1;lia⟩
theorem Hall.o {W H:Nat}{ps:List Po4}{one:Nat}{o:Po4}{m:Nat}(h:Hall W H ps one o m):PoOk 4 o:=h.ok o (List.mem_of_getElem? h.me)
theorem rP_ok {c:Pr}{W H:Nat}(w1:W<=8)(h1:H<=8)(h:c∈rimL W H):PoOk 4 (rP c):=by
 obtain⟨a,b,d,e,_⟩:=rim_mem.mp h
 have p:(10:Nat) ^ 4=10000:=rfl
 exact⟨⟨by show(0:Int)<1;decide,by show c.1.natAbs<=_;rw[p];lia,by show(1:Int).natAbs<=_;rw[p];decide⟩,⟨by show(0:Int)<1;decide,by show c.2.natAbs<=_;rw[p];lia,by show(1:Int).natAbs<=_;rw[p];decide⟩⟩
theorem things_ok {W H:Nat}{ps:List Po4}{one:Nat}{o:Po4}{m:Nat}(h:Hall W H ps one o m):∀t∈things W H ps,PoOk 4 t.p:=fun t ht=>by
 rcases List.mem_append.mp ht with q|q
 ·obtain⟨c,hc,rfl⟩:=List.mem_map.mp q
  exact rP_ok h.w1 h.h1 hc
 ·obtain⟨j,p,e,rfl⟩:=(enumP_mem 0 ps t).mp q
  exact h.ok p (List.mem_of_getElem? e)
theorem things_len {W H:Nat}{ps:List Po4}{one:Nat}{o:Po4}{m:Nat}(h:Hall W H ps one o m):(things W H ps).length<=101:=by
 have:=rim_len W (by have:=h.w1;lia) H (by have:=h.h1;lia)
 have:=h.len
 unfold things
 rw[List.length_append,List.length_map,enumP_len]
 lia
def EP (o:Po4)(W H:Nat)(ps:List Po4)(cs:List Pr):List Ev:=cs.flatMap (pevs o W H (things W H ps))
theorem c_loop {W H:Nat}{ps:List Po4}{one:Nat}{o:Po4}{m:Nat}(h:Hall W H ps one o m)(s4:Option S):∀(cs:List Pr) (K:List Ev) (s7 s8 s9 s10 s11 s12 s13:Option S),(∀c∈cs,CellOk c)->(∀f∈K,FrE 121 f)->K.length+101*cs.length<=100000 ->
  ∃t7 t8 t9 t10 t11 t12 t13,loopD (gNm 7) (sFor (iSeq (eVar 6)) gT3 pBody) (cs.map cD) [some (.im (.int (W:Int))),some (.im (.int (H:Int))),some (.im (.lst (ps.map Po4.D))),some (.im (.int (one:Int))),s4,some (.od (kvE K)),some (.im (.lst ((things W H ps).map Th.D))),s7,s8,s9,s10,s11,s12,s13] =
   .ok (.nx [some (.im (.int (W:Int))),some (.im (.int (H:Int))),some (.im (.lst (ps.map Po4.D))),some (.im (.int (one:Int))),s4,some (.od (kvE ((EP o W H ps cs).foldl updE K))),some (.im (.lst ((things W H ps).map Th.D))),t7,t8,t9,t10,t11,t12,t13])
 |[],K,s7,s8,s9,s10,s11,s12,s13,_,_,_=>⟨s7,s8,s9,s10,s11,s12,s13,rfl⟩
 |c::cs,K,s7,s8,s9,s10,s11,s12,s13,hc,hK,hl=>by
  rw[List.length_cons] at hl
  have c0:=hc c List.mem_cons_self
  have tl:=things_len h
  obtain⟨t8,t9,t10,t11,t12,t13,e1⟩:=p_loop h.sz h.o c0 (ps:=ps.map Po4.D) (one:=(one:Int)) (atI_nat (by rw[List.getElem?_map,h.me];rfl)) s4 (some (.im (.lst ((things W H ps).map Th.D)))) (things W H ps) K s8 s9 s10 s11 s12 s13 (things_ok h) hK (by lia)
  have hK':∀f∈(pevs o W H (things W H ps) c).foldl updE K,FrE 121 f:=fun f hf=>by
   rcases foldl_mem _ _ _ hf with q|q
   ·obtain⟨t,ht,q⟩:=List.mem_flatMap.mp q
    exact pev_fr h.sz h.o (things_ok h t ht) c0 q
   ·exact hK f q
  have hl':=foldl_len (pevs o W H (things W H ps) c) K
  have:=pevs_len o W H c (things W H ps)
  obtain⟨u7,u8,u9,u10,u11,u12,u13,e2⟩:=c_loop h s4 cs _ (some (.im (cD c))) t8 t9 t10 t11 t12 t13 (fun d hd=>hc d (List.mem_cons_of_mem _ hd)) hK' (by lia)
  refine⟨u7,u8,u9,u10,u11,u12,u13,?_⟩
  have ef:(EP o W H ps (c::cs)).foldl updE K=(EP o W H ps cs).foldl updE ((pevs o W H (things W H ps) c).foldl updE K):=by
   unfold EP
   rw[List.flatMap_cons,List.foldl_append]
  rw[List.map_cons,ef]
  exact(loop_nx (sd1:=[some (.im (.int (W:Int))),some (.im (.int (H:Int))),some (.im (.lst (ps.map Po4.D))),some (.im (.int (one:Int))),s4,some (.od (kvE K)),some (.im (.lst ((things W H ps).map Th.D))),some (.im (cD c)),s8,s9,s10,s11,s12,s13]) rfl ((sFor_ok (seq_l rfl)).trans e1)).trans e2
def KP (o:Po4)(W H:Nat)(ps:List Po4)(m:Nat):List Ev:=(EP o W H ps (cellsL m)).foldl updE []
theorem f_first {W H:Nat}{ps:List Po4}{one:Nat}{o:Po4}{m:Nat}(h:Hall W H ps one o m):F_first_things [.int (W:Int),.int (H:Int),.lst (ps.map Po4.D),.int (one:Int),.int (m:Int)]=.ok (.od (kvE (KP o W H ps m))):=by
 have cl:=cells_len m h.m4
 obtain⟨t7,t8,t9,t10,t11,t12,t13,e⟩:=c_loop h (some (.im (.int (m:Int)))) (cellsL m) [] none none none none none none none (cells_ok m h.m4) (fun f hf=>by cases hf) (by simp;lia)
 exact(fn5 _ _ _ _ _ _ _).trans (fin_of (go (sd':=[some (.im (.int (W:Int))),some (.im (.int (H:Int))),some (.im (.lst (ps.map Po4.D))),some (.im (.int (one:Int))),some (.im (.int (m:Int))),some (.od []),none,none,none,none,none,none,none,none]) rfl (go (set_ok (call_ok (aC rfl (aC rfl (a1 rfl))) (f_things h.w0 h.w1 h.h0 h.h1 h.len) rfl)) (go (f:=sFor (iSeq (eCall F_cells_within (aCons (eVar 4) aNil))) (gNm 7) (sFor (iSeq (eVar 6)) gT3 pBody)) ((sFor_ok (seq_l (call_ok (a1 rfl) (f_cellsP m h.m4) rfl))).trans e) rfl))))
end Law
set_option maxRecDepth 100000
set_option maxHeartbeats 4000000
set_option linter.all false
namespace Law
open PySem L2 DL
theorem eq_nD (a b c d:Int):gEq (nD a b) (nD c d)=.ok (.bl (decide (a=c/\b=d))):=by
 rw[gEq_b (by simp[nD,D.dep,D.deps])]
 simp only[nD,D.eq,D.eqs]
 congr 2
 rw[Bool.eq_iff_iff]
 simp
structure Rw where
 c:Pr
 wd:D
 wh:D
def Rw.D (r:Rw):D:=.tup [.int r.c.1,.int r.c.2,r.wd,r.wh]
def vI (o q:Po4)(W H:Int)(c:Pr):Vc:=vec o (img W H q c.1 c.2)
def wV (v:Vc):Pr:=wy v.P v.Q
def SeenP (o q:Po4)(W H:Int)(K:List Ev)(c:Pr):Prop:=∃f,atW K (wV (vI o q W H c))=some f/\(f.n=nL (ab1 (vI o q W H c)) (vI o q W H c).N/\f.d=dL (ab1 (vI o q W H c)) (vI o q W H c).N)
open Classical in
noncomputable def rowP (o q:Po4)(W H:Int)(oth:D)(K:List Ev)(c:Pr):Option Rw :=
 if(vI o q W H c).nz then(if SeenP o q W H K c then some ⟨c,sSeen,oth⟩ else some ⟨c,(((atW K (wV (vI o q W H c))).map (·.x)).getD []).headD .non,((((atW K (wV (vI o q W H c))).map (·.x)).getD []).tail).headD .non⟩) else none
noncomputable def kBody:DSt->M O:=(sSeq (sSet 9 (eCall F_step_to (aCons (eOp gIx (eVar 2) (eVar 3)) (aCons (eCall F_image_at (aCons (eVar 0) (aCons (eVar 1) (aCons (eOp gIx (eVar 2) (eVar 4)) (aCons (eVar 8) aNil))))) aNil))))
   (sIf (DL.tB (eUn (gNe4 0 1 0 1) (eVar 9))) (sSeq (sSet 10 (DL.eDGet 6 (eCall F_direction (aCons (eVar 9) aNil))))
   (sIf (DL.tB (eOp gEq (eOp gIx (eVar 10) (eC (.int 0))) (eCall F_length (aCons (eVar 9) aNil)))) (sApp 7 (eTup (aCons (eOp gIx (eVar 8) (eC (.int 0))) (aCons (eOp gIx (eVar 8) (eC (.int 1))) (aCons (eC (.str (Str.ofString "seen"))) (aCons (eVar 4) aNil)))))) (sApp 7 (eTup (aCons (eOp gIx (eVar 8) (eC (.int 0))) (aCons (eOp gIx (eVar 8) (eC (.int 1))) (aCons (eOp gIx (eVar 10) (eC (.int 1))) (aCons (eOp gIx (eVar 10) (eC (.int 2))) aNil)))))))) sNil))
theorem tup4 {fa fb fc fd:DSt->M D}{sd:DSt}{a b c d:D}(h1:fa sd=.ok a)(h2:fb sd=.ok b)(h3:fc sd=.ok c)(h4:fd sd=.ok d):eTup (aCons fa (aCons fb (aCons fc (aCons fd aNil)))) sd=.ok (.tup [a,b,c,d]):=by
 unfold eTup;rw[aC h1 (aC h2 (aC h3 (a1 h4)))];rfl
theorem k_turn {W H:Int}(z:Sz W H){o q:Po4}(ho:PoOk 4 o)(hq:PoOk 4 q){c:Pr}(hc:CellOk c){ps:List D}{one oth:Int}(eo:atI ps one=some o.D)(eq:atI ps oth=some q.D){K:List Ev}(hK:(vI o q W H c).nz->∃f wd wh,atW K (wV (vI o q W H c))=some f/\f.x=[wd,wh]){ds:List D}(hl:ds.length<=1000)(s5 s9 s10:Option S) :
  ∃t9 t10,kBody [some (.im (.int W)),some (.im (.int H)),some (.im (.lst ps)),some (.im (.int one)),some (.im (.int oth)),s5,some (.od (kvE K)),some (.ow ds),some (.im (cD c)),s9,s10] =
   .ok (.nx [some (.im (.int W)),some (.im (.int H)),some (.im (.lst ps)),some (.im (.int one)),some (.im (.int oth)),s5,some (.od (kvE K)),some (.ow (ds++(rowP o q W H (.int oth) K c).toList.map Rw.D)),some (.im (cD c)),t9,t10]):=by
 obtain⟨s,tt,u,v,e1,f1,f2⟩:=to_image z ho hq hc (f2:=eVar 0) (sd:=[some (.im (.int W)),some (.im (.int H)),some (.im (.lst ps)),some (.im (.int one)),some (.im (.int oth)),s5,some (.od (kvE K)),some (.ow ds),some (.im (cD c)),s9,s10]) rfl rfl (fo:=eOp gIx (eVar 2) (eVar 3)) (fp:=eOp gIx (eVar 2) (eVar 4)) (fc:=eVar 8) (ix_ok rfl rfl eo) (ix_ok rfl rfl eq) rfl
 unfold rowP
 by_cases hz:(vI o q W H c).nz
 ·obtain⟨d1,d2⟩:=f2 hz
  obtain⟨f,wd,wh,ef,ex⟩:=hK hz
  rw[if_pos hz]
  have hv:valE f=.tup [nD f.n f.d,wd,wh]:=by unfold valE;rw[ex]
  have g1:=get_ok (i:=6) (fk:=eCall F_direction (aCons (eVar 9) aNil)) (sd:=[some (.im (.int W)),some (.im (.int H)),some (.im (.lst ps)),some (.im (.int one)),some (.im (.int oth)),s5,some (.od (kvE K)),some (.ow ds),some (.im (cD c)),some (.im (.tup [nD s tt,nD u v])),s10]) (K:=K) (e:=evP (vI o q W H c) []) (f:=f) rfl (call_ok (a1 rfl) d1 rfl) ef
  rw[hv] at g1
  have tst:DL.tB (eOp gEq (eOp gIx (eVar 10) (eC (.int 0))) (eCall F_length (aCons (eVar 9) aNil))) [some (.im (.int W)),some (.im (.int H)),some (.im (.lst ps)),some (.im (.int one)),some (.im (.int oth)),s5,some (.od (kvE K)),some (.ow ds),some (.im (cD c)),some (.im (.tup [nD s tt,nD u v])),some (.im (.tup [nD f.n f.d,wd,wh]))]=.ok (decide (f.n=nL (ab1 (vI o q W H c)) (vI o q W H c).N/\f.d=dL (ab1 (vI o q W H c)) (vI o q W H c).N)) :=
   tB_b (op_ok (ixt_ok rfl rfl (atI0 _ _)) (call_ok (a1 rfl) d2 rfl) (eq_nD _ _ _ _))
  by_cases hs:SeenP o q W H K c
  ·rw[if_pos hs]
   obtain⟨f',ef',hh⟩:=hs
   rw[ef] at ef'
   cases ef'
   exact⟨_,_,go (set_ok e1) (if_take (tB_b (un_ok rfl (f1.trans (by rw[decide_eq_true (show(vec o (img W H q c.1 c.2)).nz from hz)])))) (go (set_ok g1) (if_take (tst.trans (by rw[decide_eq_true hh])) (app_ok (ds:=ds) rfl (tup4 (ixt_ok rfl rfl (atI0 _ _)) (ixt_ok rfl rfl (atI1 _ _ _)) rfl rfl) hl))))⟩
  ·rw[if_neg hs]
   have hh:¬(f.n=nL (ab1 (vI o q W H c)) (vI o q W H c).N/\f.d=dL (ab1 (vI o q W H c)) (vI o q W H c).N):=fun h=>hs ⟨f,ef,h⟩
   have e3:((atW K (wV (vI o q W H c))).map (·.x)).getD []=[wd,wh]:=by rw[ef];exact ex
   rw[e3]
   exact⟨_,_,go (set_ok e1) (if_take (tB_b (un_ok rfl (f1.trans (by rw[decide_eq_true (show(vec o (img W H q c.1 c.2)).nz from hz)])))) (go (set_ok g1) (if_else (tst.trans (by rw[decide_eq_false hh])) (app_ok (ds:=ds) rfl (tup4 (ixt_ok rfl rfl (atI0 _ _)) (ixt_ok rfl rfl (atI1 _ _ _)) (ixt_ok rfl rfl (atI1 _ _ _)) (ixt_ok rfl rfl (atI2 _ _ _ _))) hl))))⟩
 ·rw[if_neg hz]
  have ea:ds++(none:Option Rw).toList.map Rw.D=ds:=List.append_nil _
  rw[ea]
  exact⟨_,_,go (set_ok e1) (if_skip (tB_b (un_ok rfl (f1.trans (by rw[decide_eq_false (show ¬(vec o (img W H q c.1 c.2)).nz from hz)])))))⟩
noncomputable def rowsP (o q:Po4)(W H:Int)(oth:D)(K:List Ev)(cs:List Pr):List Rw:=cs.flatMap fun c=>(rowP o q W H oth K c).toList
theorem k_loop {W H:Int}(z:Sz W H){o q:Po4}(ho:PoOk 4 o)(hq:PoOk 4 q){ps:List D}{one oth:Int}(eo:atI ps one=some o.D)(eq:atI ps oth=some q.D){K:List Ev}(s5:Option S):∀(cs:List Pr) (ds:List D) (s8 s9 s10:Option S),(∀c∈cs,CellOk c)->(∀c∈cs,(vI o q W H c).nz->∃f wd wh,atW K (wV (vI o q W H c))=some f/\f.x=[wd,wh])->ds.length+cs.length<=1000 ->
  ∃t8 t9 t10,loopD (gNm 8) kBody (cs.map cD) [some (.im (.int W)),some (.im (.int H)),some (.im (.lst ps)),some (.im (.int one)),some (.im (.int oth)),s5,some (.od (kvE K)),some (.ow ds),s8,s9,s10] =
   .ok (.nx [some (.im (.int W)),some (.im (.int H)),some (.im (.lst ps)),some (.im (.int one)),some (.im (.int oth)),s5,some (.od (kvE K)),some (.ow (ds++(rowsP o q W H (.int oth) K cs).map Rw.D)),t8,t9,t10])
 |[],ds,s8,s9,s10,_,_,_=>⟨s8,s9,s10,by
  show _=M.ok (O.nx [_,_,_,_,_,_,_,some (.ow (ds++[])),_,_,_])
  rw[List.append_nil];rfl⟩
 |c::cs,ds,s8,s9,s10,hc,hK,hl=>by
  rw[List.length_cons] at hl
  obtain⟨t9,t10,e1⟩:=k_turn z ho hq (hc c List.mem_cons_self) eo eq (hK c List.mem_cons_self) (ds:=ds) (by lia) s5 s9 s10
  have tl:=tn_len (rowP o q W H (.int oth) K c)
  obtain⟨u8,u9,u10,e2⟩:=k_loop z ho hq eo eq s5 cs (ds++(rowP o q W H (.int oth) K c).toList.map Rw.D) (some (.im (cD c))) t9 t10 (fun d hd=>hc d (List.mem_cons_of_mem _ hd)) (fun d hd=>hK d (List.mem_cons_of_mem _ hd)) (by rw[List.length_append,List.length_map];lia)
  refine⟨u8,u9,u10,?_⟩
  have ef:ds++(rowsP o q W H (.int oth) K (c::cs)).map Rw.D=ds++(rowP o q W H (.int oth) K c).toList.map Rw.D++(rowsP o q W H (.int oth) K cs).map Rw.D:=by
   unfold rowsP
   rw[List.flatMap_cons,List.map_append,List.append_assoc]
  rw[List.map_cons,ef]
  exact(loop_nx (sd1:=[some (.im (.int W)),some (.im (.int H)),some (.im (.lst ps)),some (.im (.int one)),some (.im (.int oth)),s5,some (.od (kvE K)),some (.ow ds),some (.im (cD c)),s9,s10]) rfl e1).trans e2
theorem fn6 (m:Nat)(f:DSt->M O)(a0 a1 a2 a3 a4 a5:D):fnD 6 m f [a0,a1,a2,a3,a4,a5]=fin' (f ([some (S.im a0),some (S.im a1),some (S.im a2),some (S.im a3),some (S.im a4),some (S.im a5)]++List.replicate m none)):=rfl
theorem setD_ok {i:Nat}{F:List D->M S}{fs:DSt->M (List D)}{sd:DSt}{ds:List D}{kv:List (List Key×D)}(h1:fs sd=.ok ds)(h2:F ds=.ok (.od kv)):sSetD i F fs sd=.ok (.nx (sd.set i (some (.od kv)))):=by
 unfold sSetD
 rw[h1,M.bind_ok,h2]
theorem EP_mem {o:Po4}{W H:Nat}{ps:List Po4}{cs:List Pr}{e:Ev}:e∈EP o W H ps cs↔∃c∈cs,∃t∈things W H ps,(vI o t.p W H c).nz/\e=evP (vI o t.p W H c) [t.wd,t.wh]:=by
 unfold EP pevs
 rw[List.mem_flatMap]
 constructor
 ·rintro⟨c,hc,h⟩
  obtain⟨t,ht,h⟩:=List.mem_flatMap.mp h
  refine⟨c,hc,t,ht,?_⟩
  unfold pev at h
  split at h
  ·rename_i hz
   exact⟨hz,List.mem_singleton.mp h⟩
  ·cases h
 ·rintro⟨c,hc,t,ht,hz,rfl⟩
  refine⟨c,hc,List.mem_flatMap.mpr ⟨t,ht,?_⟩⟩
  unfold pev
  rw[if_pos (show(vec o (img W H t.p c.1 c.2)).nz from hz)]
  exact List.mem_singleton.mpr rfl
theorem EP_ok {W H:Nat}{ps:List Po4}{one:Nat}{o:Po4}{m:Nat}(h:Hall W H ps one o m):∀e∈EP o W H ps (cellsL m),EvOk e:=fun e he=>by
 obtain⟨c,hc,t,ht,hz,rfl⟩:=EP_mem.mp he
 exact(evP_fr (x:=[t.wd,t.wh]) (vi_ok h.sz h.o (things_ok h t ht) (cells_ok m h.m4 c hc))).pos
theorem KP_told {W H:Nat}{ps:List Po4}{one:Nat}{o:Po4}{m:Nat}(h:Hall W H ps one o m):Told (KP o W H ps m) (EP o W H ps (cellsL m)):=by
 have:=Told.fold (EP o W H ps (cellsL m)) [] [] Told.nil (fun _ h=>by cases h) (EP_ok h)
 rwa[List.nil_append] at this
theorem at_of {K:List Ev}(nd:(K.map (·.w)).Nodup){f:Ev}(hf:f∈K):atW K f.w=some f:=by
 cases q:atW K f.w with
 |none=>exact absurd rfl (atW_none q f hf)
 |some g =>
  obtain⟨hg,hw⟩:=atW_some q
  rw[uniq_w nd hg hf hw]
theorem person_mem {W H:Nat}{ps:List Po4}{j:Nat}{q:Po4}(h:ps[j]?=some q):(⟨q,sPerson,.int (j:Int)⟩:Th)∈things W H ps :=
 List.mem_append_right _ ((enumP_mem 0 ps _).mpr ⟨j,q,h,by rw[Nat.zero_add]⟩)
theorem KP_at {W H:Nat}{ps:List Po4}{one:Nat}{o:Po4}{m:Nat}(h:Hall W H ps one o m){oth:Nat}{q:Po4}(hq:ps[oth]?=some q){c:Pr}(hc:c∈cellsL m)(hz:(vI o q W H c).nz):∃f,atW (KP o W H ps m) (wV (vI o q W H c))=some f/\f∈EP o W H ps (cellsL m)/\¬(evP (vI o q W H c) []).n*f.d<f.n*(evP (vI o q W H c) []).d:=by
 have t:=KP_told h
 obtain⟨f,hf,hw,hl⟩:=t.low _ (EP_mem.mpr ⟨c,hc,_,person_mem hq,hz,rfl⟩)
 refine⟨f,?_,t.mem f hf,hl⟩
 have:=at_of t.nd hf
 rw[hw] at this
 exact this
theorem f_cells {W H:Nat}{ps:List Po4}{one:Nat}{o:Po4}{m:Nat}(h:Hall W H ps one o m){oth:Nat}{q:Po4}(hq:ps[oth]?=some q):F_cells [.int (W:Int),.int (H:Int),.lst (ps.map Po4.D),.int (one:Int),.int (oth:Int),.int (m:Int)]=.ok (.ow ((rowsP o q W H (.int (oth:Int)) (KP o W H ps m) (cellsL m)).map Rw.D)):=by
 have cl:=cells_len m h.m4
 obtain⟨t8,t9,t10,e⟩:=k_loop h.sz h.o (h.ok q (List.mem_of_getElem? hq)) (ps:=ps.map Po4.D) (one:=(one:Int)) (oth:=(oth:Int)) (atI_nat (by rw[List.getElem?_map,h.me];rfl)) (atI_nat (by rw[List.getElem?_map,hq];rfl)) (K:=KP o W H ps m) (some (.im (.int (m:Int)))) (cellsL m) [] none none none (cells_ok m h.m4) (fun c hc hz=>by
  obtain⟨f,e1,e2,_⟩:=KP_at h hq hc hz
  obtain⟨c',_,t,_,_,rfl⟩:=EP_mem.mp e2
  exact⟨_,_,_,e1,rfl⟩) (by simp;lia)
 refine(fn6 _ _ _ _ _ _ _ _).trans (fin_of (go (setD_ok (aC rfl (aC rfl (aC rfl (aC rfl (a1 rfl))))) (f_first h)) (go (own_nil 7 _) (go (f:=sFor (iSeq (eCall F_cells_within (aCons (eVar 5) aNil))) (gNm 8) kBody) ((sFor_ok (seq_l (call_ok (a1 rfl) (f_cellsP m h.m4) rfl))).trans e) rfl))))
end Law
set_option maxRecDepth 100000
set_option maxHeartbeats 4000000
set_option linter.all false
namespace Law
open PySem L2 DL
def NW (p:Po4):Prop:=(∀k:Int,k*p.b≠p.a)/\∀k:Int,k*p.d≠p.c
end Law
set_option maxRecDepth 100000
set_option maxHeartbeats 4000000
set_option linter.all false
namespace Law
open PySem L2 DL
def span (z:Nat)(i:Int):List Int:=(List.range (z+1)).map fun(k:Nat)=>i*(z:Int)+(k:Int)
theorem span_mem {z:Nat}{i x:Int}:x∈span z i↔i*(z:Int)<=x/\x<=i*(z:Int)+z:=by
 unfold span
 rw[List.mem_map]
 constructor
 ·rintro⟨k,hk,rfl⟩
  have:=List.mem_range.mp hk
  lia
 ·rintro⟨h1,h2⟩
  exact⟨(x - i*(z:Int)).toNat,List.mem_range.mpr (by lia),by lia⟩
end Law
set_option maxRecDepth 100000
set_option maxHeartbeats 4000000
set_option linter.all false
namespace Law
open PySem L2 DL
theorem lt_mul_iff {a b k:Int}(hk:0<k):a*k<b*k↔a<b:=⟨fun h=>Int.lt_of_mul_lt_mul_right h (Int.le_of_lt hk),fun h=>Int.mul_lt_mul_of_pos_right h hk⟩
theorem nd_lt {t b t' b':Int}(hb:0<b)(hb':0<b'):nL t b*dL t' b'<nL t' b'*dL t b↔t*b'<t'*b:=by
 obtain⟨d1,e1,_⟩:=nd_spec (t:=t) hb
 obtain⟨d2,e2,_⟩:=nd_spec (t:=t') hb'
 generalize nL t b=n at *
 generalize dL t b=d at *
 generalize nL t' b'=n' at *
 generalize dL t' b'=d' at *
 have p:0<b*b':=Int.mul_pos hb hb'
 have q:0<d*d':=Int.mul_pos d1 d2
 rw[<-lt_mul_iff p,<-lt_mul_iff (a:=t*b') q]
 have a1:n*d'*(b*b')=t*b'*(d*d'):=by
  have:n*d'*(b*b')=(n*b)*(d'*b'):=m4 _ _ _ _
  rw[this,e1,Int.mul_comm d' b',m4]
 have a2:n'*d*(b*b')=t'*b*(d*d'):=by
  have:n'*d*(b*b')=(n'*b')*(d*b):=by rw[Int.mul_comm b b',m4]
  rw[this,e2,Int.mul_comm d b,m4,Int.mul_comm d' d]
 rw[a1,a2]
def gV (v:Vc):Int:=gI v.P v.Q
def ltV (v v':Vc):Prop:=gV v*v'.N<gV v'*v.N
def wS (w:Pr):Int:=(w.1.natAbs:Int)+w.2.natAbs
theorem ab1_w {v:Vc}(h:v.nz):ab1 v=gV v*wS (wV v):=by
 obtain⟨g0,e1,e2,_⟩:=wy_spec (P:=v.P) (Q:=v.Q) h
 have f:∀(g u:Int),0<g->((g*u).natAbs:Int)=g*(u.natAbs:Int):=fun g u hg=>by rw[Int.natAbs_mul,Int.natCast_mul];congr 1;lia
 unfold ab1 wS gV wV
 rw[Int.mul_add,<-f _ _ g0,<-f _ _ g0,<-e1,<-e2]
theorem wS_pos {v:Vc}(h:v.nz):0<wS (wV v):=by
 obtain⟨g0,e1,e2,_⟩:=wy_spec (P:=v.P) (Q:=v.Q) h
 unfold wS wV
 have:(wy v.P v.Q).1≠0\/(wy v.P v.Q).2≠0:=by
  rcases h with h|h
  ·exact .inl fun z=>h (by rw[e1,z,Int.mul_zero])
  ·exact .inr fun z=>h (by rw[e2,z,Int.mul_zero])
 lia
theorem evP_lt {v v':Vc}{x y:List D}(hN:0<v.N)(hN':0<v'.N)(hz:v.nz)(hz':v'.nz)(hw:wV v=wV v'):(evP v x).n*(evP v' y).d<(evP v' y).n*(evP v x).d↔ltV v v':=by
 refine(nd_lt hN hN').trans ?_
 rw[ab1_w hz,ab1_w hz',hw]
 unfold ltV
 rw[Int.mul_right_comm,Int.mul_right_comm (gV v')]
 exact lt_mul_iff (wS_pos hz')
theorem eqV {v v':Vc}(hz:v.nz)(hz':v'.nz)(hw:wV v=wV v')(h1:¬ltV v v')(h2:¬ltV v' v):v.P*v'.N=v'.P*v.N/\v.Q*v'.N=v'.Q*v.N:=by
 obtain⟨g0,e1,e2,_⟩:=wy_spec (P:=v.P) (Q:=v.Q) hz
 obtain⟨g0',e1',e2',_⟩:=wy_spec (P:=v'.P) (Q:=v'.Q) hz'
 have e:gI v.P v.Q*v'.N=gI v'.P v'.Q*v.N:=by
  unfold ltV gV at h1 h2;lia
 unfold wV at hw
 rw[hw] at e1 e2
 generalize gI v.P v.Q=g at *
 generalize gI v'.P v'.Q=g' at *
 generalize (wy v'.P v'.Q).1=a at *
 generalize (wy v'.P v'.Q).2=b at *
 constructor
 ·rw[e1,e1',Int.mul_right_comm,e,Int.mul_right_comm]
 ·rw[e2,e2',Int.mul_right_comm,e,Int.mul_right_comm]
theorem frac1 {xa xb ya yb oa ob p q:Int}(hob:0<ob)(hp:0<p)(hq:0<q)(h:(xa*ob - oa*xb)*p*((yb*ob)*q)=(ya*ob - oa*yb)*q*((xb*ob)*p)):xa*yb=ya*xb:=by
 have k:ob*ob*(p*q)≠0:=by
  have:=Int.mul_pos (Int.mul_pos hob hob) (Int.mul_pos hp hq);lia
 refine Int.eq_of_mul_eq_mul_right k ?_
 grind
theorem pos_of {o X Y:Po4}(ho1:0<o.b)(ho2:0<o.d)(hX1:0<X.b)(hX2:0<X.d)(hY1:0<Y.b)(hY2:0<Y.d)(h1:(vec o X).P*(vec o Y).N=(vec o Y).P*(vec o X).N)(h2:(vec o X).Q*(vec o Y).N=(vec o Y).Q*(vec o X).N):X.a*Y.b=Y.a*X.b/\X.c*Y.d=Y.c*X.d:=by
 unfold vec at h1 h2
 dsimp only at h1 h2
 refine⟨frac1 (oa:=o.a) (ob:=o.b) (p:=X.d*o.d) (q:=Y.d*o.d) ho1 (Int.mul_pos hX2 ho2) (Int.mul_pos hY2 ho2) h1,frac1 (oa:=o.c) (ob:=o.d) (p:=X.b*o.b) (q:=Y.b*o.b) ho2 (Int.mul_pos hX1 ho1) (Int.mul_pos hY1 ho1) ?_⟩
 rw[Int.mul_comm (Y.d*o.d),Int.mul_comm (X.d*o.d)]
 exact h2
end Law
set_option maxRecDepth 100000
set_option maxHeartbeats 4000000
set_option linter.all false
namespace Law
open PySem L2 DL
theorem mod_span {z:Nat}{i t:Int}(h0:0<=t)(h1:t<=z)(hz:1<=z):(i*(z:Int)+t) % (z:Int)=0↔t=0\/t=z:=by
 rw[Int.add_comm,Int.add_mul_emod_self_right]
 constructor
 ·intro h
  by_cases hl:t<z
  ·rw[Int.emod_eq_of_lt h0 hl] at h;exact .inl h
  ·exact .inr (by lia)
 ·rintro(rfl|rfl)
  ·exact Int.zero_emod _
  ·exact Int.emod_self
def foldB (z:Nat)(i a:Int):Int:=if i % 2=1 then(z:Int) - a else a
theorem imX1 (z:Nat)(a i:Int):imX z a 1 i=i*(z:Int)+foldB z i a:=by
 unfold imX foldB
 rw[Int.mul_one,Int.mul_one,Int.add_comm]
theorem foldB_bd {z:Nat}{i a:Int}(h:0<=a/\a<=z):0<=foldB z i a/\foldB z i a<=z:=by unfold foldB;split<;>lia
theorem foldB_end {z:Nat}{i a:Int}:(foldB z i a=0\/foldB z i a=z)↔(a=0\/a=z):=by unfold foldB;split<;>lia
theorem foldB_inv (z:Nat)(i a:Int):foldB z i (foldB z i a)=a:=by unfold foldB;split<;>lia
theorem rim_fold {W H:Nat}(w0:1<=W)(h0:1<=H){r c:Pr}(h:r∈rimL W H):imX W r.1 1 c.1∈span W c.1/\imX H r.2 1 c.2∈span H c.2/\(imX W r.1 1 c.1 % (W:Int)=0\/imX H r.2 1 c.2 % (H:Int)=0):=by
 obtain⟨a1,a2,b1,b2,e⟩:=rim_mem.mp h
 have p:=foldB_bd (z:=W) (i:=c.1) ⟨a1,a2⟩
 have q:=foldB_bd (z:=H) (i:=c.2) ⟨b1,b2⟩
 rw[imX1,imX1,span_mem,span_mem,mod_span p.1 p.2 w0,mod_span q.1 q.2 h0,foldB_end,foldB_end]
 refine⟨by lia,by lia,by lia⟩
theorem rim_unfold {W H:Nat}(w0:1<=W)(h0:1<=H){x y:Int}{c:Pr}(hx:x∈span W c.1)(hy:y∈span H c.2)(e:x % (W:Int)=0\/y % (H:Int)=0):∃r∈rimL W H,imX W r.1 1 c.1=x/\imX H r.2 1 c.2=y:=by
 have hx:=span_mem.mp hx
 have hy:=span_mem.mp hy
 have ex:x=c.1*(W:Int)+(x - c.1*(W:Int)):=by lia
 have ey:y=c.2*(H:Int)+(y - c.2*(H:Int)):=by lia
 generalize x - c.1*(W:Int)=t at *
 generalize y - c.2*(H:Int)=u at *
 subst ex ey
 rw[mod_span (by lia) (by lia) w0,mod_span (by lia) (by lia) h0] at e
 have p:=foldB_bd (z:=W) (i:=c.1) (a:=t) ⟨by lia,by lia⟩
 have q:=foldB_bd (z:=H) (i:=c.2) (a:=u) ⟨by lia,by lia⟩
 refine⟨(foldB W c.1 t,foldB H c.2 u),rim_mem.mpr ⟨p.1,p.2,q.1,q.2,?_⟩,?_,?_⟩
 ·have e1:=foldB_end (z:=W) (i:=c.1) (a:=t)
  have e2:=foldB_end (z:=H) (i:=c.2) (a:=u)
  dsimp only
  lia
 ·rw[imX1,foldB_inv]
 ·rw[imX1,foldB_inv]
def VV (o:Po4)(W H:Nat)(ps:List Po4)(cs:List Pr)(v:Vc):Prop:=∃c∈cs,(∃(k:Nat) (p:Po4),ps[k]?=some p/\v=vI o p W H c)\/(∃r∈rimL W H,v=vI o (rP r) W H c)
theorem EP_v {o:Po4}{W H:Nat}{ps:List Po4}{cs:List Pr}{e:Ev}(he:e∈EP o W H ps cs):∃v x,VV o W H ps cs v/\v.nz/\e=evP v x:=by
 obtain⟨c,hc,t,ht,hz,rfl⟩:=EP_mem.mp he
 refine⟨_,_,⟨c,hc,?_⟩,hz,rfl⟩
 rcases List.mem_append.mp ht with q|q
 ·obtain⟨r,hr,rfl⟩:=List.mem_map.mp q
  exact .inr ⟨r,hr,rfl⟩
 ·obtain⟨j,p,e,rfl⟩:=(enumP_mem 0 ps t).mp q
  exact .inl ⟨j,p,e,rfl⟩
theorem v_EP {o:Po4}{W H:Nat}{ps:List Po4}{cs:List Pr}{v:Vc}(h:VV o W H ps cs v)(hz:v.nz):∃x,evP v x∈EP o W H ps cs:=by
 obtain⟨c,hc,⟨k,p,ep,rfl⟩|⟨r,hr,rfl⟩⟩:=h
 ·exact⟨_,EP_mem.mpr ⟨c,hc,_,person_mem ep,hz,rfl⟩⟩
 ·exact⟨_,EP_mem.mpr ⟨c,hc,rT r,List.mem_append_left _ (List.mem_map.mpr ⟨r,hr,rfl⟩),hz,rfl⟩⟩
theorem VV_N {W H:Nat}{ps:List Po4}{one:Nat}{o:Po4}{m:Nat}(h:Hall W H ps one o m){v:Vc}(hv:VV o W H ps (cellsL m) v):0<v.N:=by
 obtain⟨c,hc,⟨k,p,ep,rfl⟩|⟨r,hr,rfl⟩⟩:=hv
 ·exact(vi_ok h.sz h.o (h.ok p (List.mem_of_getElem? ep)) (cells_ok m h.m4 c hc)).N
 ·exact(vi_ok h.sz h.o (rP_ok h.w1 h.h1 hr) (cells_ok m h.m4 c hc)).N
def Mn (o:Po4)(W H:Nat)(ps:List Po4)(m:Nat)(v:Vc):Prop:=∀v',VV o W H ps (cellsL m) v'->v'.nz->wV v'=wV v->¬ltV v' v
theorem seen_iff {W H:Nat}{ps:List Po4}{one:Nat}{o:Po4}{m:Nat}(h:Hall W H ps one o m){oth:Nat}{q:Po4}(hq:ps[oth]?=some q){c:Pr}(hc:c∈cellsL m)(hz:(vI o q W H c).nz):SeenP o q W H (KP o W H ps m) c↔Mn o W H ps m (vI o q W H c):=by
 have t:=KP_told h
 have hv:VV o W H ps (cellsL m) (vI o q W H c):=⟨c,hc,.inl ⟨oth,q,hq,rfl⟩⟩
 have hN:=VV_N h hv
 obtain⟨f,ef,hf,hl⟩:=KP_at h hq hc hz
 obtain⟨vf,x,hvf,zf,rfl⟩:=EP_v hf
 have hNf:=VV_N h hvf
 have hw:wV vf=wV (vI o q W H c):=(atW_some ef).2
 constructor
 ·rintro⟨f',ef',e1,e2⟩ v' hv' hz' hw' hlt
  rw[ef] at ef'
  cases ef'
  obtain⟨y,hy⟩:=v_EP hv' hz'
  obtain⟨g,hg,gw,gl⟩:=t.low _ hy
  have:g=evP vf x:=uniq_w t.nd hg (atW_some ef).1 (gw.trans (show wV v'=wV vf from hw'.trans hw.symm))
  rw[this,e1,e2] at gl
  exact gl ((evP_lt (x:=y) (y:=[]) (VV_N h hv') hN hz' hz hw').mpr hlt)
 ·intro mn
  refine⟨_,ef,?_⟩
  have n1:¬ltV vf (vI o q W H c):=mn vf hvf zf hw
  have n2:¬ltV (vI o q W H c) vf:=fun z=>hl ((evP_lt hN hNf hz zf hw.symm).mpr z)
  obtain⟨d1,e1,c1⟩:=nd_spec (t:=ab1 vf) hNf
  obtain⟨d2,e2,c2⟩:=nd_spec (t:=ab1 (vI o q W H c)) hN
  have m1:=(not_congr (evP_lt (x:=x) (y:=[]) hNf hN zf hz hw)).mpr n1
  have m2:=(not_congr (evP_lt (x:=[]) (y:=x) hN hNf hz zf hw.symm)).mpr n2
  have m1:¬nL (ab1 vf) vf.N*dL (ab1 (vI o q W H c)) (vI o q W H c).N<nL (ab1 (vI o q W H c)) (vI o q W H c).N*dL (ab1 vf) vf.N:=m1
  have m2:¬nL (ab1 (vI o q W H c)) (vI o q W H c).N*dL (ab1 vf) vf.N<nL (ab1 vf) vf.N*dL (ab1 (vI o q W H c)) (vI o q W H c).N:=m2
  exact frac_uniq d1 d2 c1 c2 (Int.le_antisymm (Int.not_lt.mp m2) (Int.not_lt.mp m1))
end Law
set_option maxRecDepth 100000
set_option maxHeartbeats 4000000
set_option linter.all false
namespace Law
open PySem L2 DL
structure Ins (W H:Nat) (p:Po4):Prop where
 b:0<p.b
 d:0<p.d
 a0:0<p.a
 a1:p.a<(W:Int)*p.b
 c0:0<p.c
 c1:p.c<(H:Int)*p.d
 gx:Int.gcd p.a p.b=1
 gy:Int.gcd p.c p.d=1
 nw:NW p
theorem one_cell {B k s t:Int}(s0:0<s)(s1:s<B)(t0:0<t)(t1:t<B)(e:s - t=k*B):k=0:=by
 have hB:0<B:=by lia
 rcases Int.lt_trichotomy k 0 with h|h|h
 ·have:=Int.mul_le_mul_of_nonneg_right (show k <= -1 by lia) (Int.le_of_lt hB)
  lia
 ·exact h
 ·have:=Int.mul_le_mul_of_nonneg_right (show 1<=k by lia) (Int.le_of_lt hB)
  lia
theorem fold_bd {z:Nat}{a b i:Int}(h0:0<a)(h1:a<(z:Int)*b):0<(if i % 2=1 then(z:Int)*b - a else a)/\(if i % 2=1 then(z:Int)*b - a else a)<(z:Int)*b:=by split<;>lia
theorem im_inj {z:Nat}{a b a' b' i i':Int}(hb:0<b)(hb':0<b')(h0:0<a)(h1:a<(z:Int)*b)(h0':0<a')(h1':a'<(z:Int)*b')(e:imX z a b i*b'=imX z a' b' i'*b):i=i'/\a*b'=a'*b:=by
 obtain⟨f0,f1⟩:=fold_bd (i:=i) h0 h1
 obtain⟨g0,g1⟩:=fold_bd (i:=i') h0' h1'
 have ei:i=i':=by
  unfold imX at e
  generalize (if i % 2=1 then(z:Int)*b - a else a)=t at *
  generalize (if i' % 2=1 then(z:Int)*b' - a' else a')=t' at *
  have k:=one_cell (B:=(z:Int)*b*b') (k:=i' - i) (s:=t*b') (t:=t'*b) (Int.mul_pos f0 hb') (Int.mul_lt_mul_of_pos_right f1 hb') (Int.mul_pos g0 hb) (by have:=Int.mul_lt_mul_of_pos_right g1 hb;rw[Int.mul_right_comm] at this;exact this) (by grind)
  lia
 subst ei
 refine⟨rfl,?_⟩
 unfold imX at e
 split at e<;>grind
theorem im_nw {z:Nat}{a b i x:Int}(n:∀k:Int,k*b≠a):imX z a b i*1≠x*b:=by
 intro e
 unfold imX at e
 split at e
 ·refine n ((z:Int) - x+i*z) ?_
  grind
 ·refine n (x - i*z) ?_
  grind
theorem po_eq {p p':Po4}{W H:Nat}(h:Ins W H p)(h':Ins W H p')(e1:p.a*p'.b=p'.a*p.b)(e2:p.c*p'.d=p'.c*p.d):p=p':=by
 obtain⟨x1,x2⟩:=frac_uniq h.b h'.b h.gx h'.gx e1
 obtain⟨y1,y2⟩:=frac_uniq h.d h'.d h.gy h'.gy e2
 cases p;cases p'
 simp only at x1 x2 y1 y2
 rw[x1,x2,y1,y2]
structure Peo (W H:Nat) (ps:List Po4):Prop where
 nd:ps.Nodup
 ins:∀p∈ps,Ins W H p
theorem same_ix {ps:List Po4}(nd:ps.Nodup){i j:Nat}{p:Po4}(h1:ps[i]?=some p)(h2:ps[j]?=some p):i=j:=by
 obtain⟨a1,e1⟩:=List.getElem?_eq_some_iff.mp h1
 obtain⟨a2,e2⟩:=List.getElem?_eq_some_iff.mp h2
 rcases Nat.lt_trichotomy i j with z|z|z
 ·exact((List.pairwise_iff_getElem.mp nd i j a1 a2 z) (e1.trans e2.symm)).elim
 ·exact z
 ·exact((List.pairwise_iff_getElem.mp nd j i a2 a1 z) (e2.trans e1.symm)).elim
theorem vI_inj {o p p':Po4}{W H:Nat}(ho1:0<o.b)(ho2:0<o.d)(h:Ins W H p)(h':Ins W H p'){c c':Pr}(e1:(vI o p W H c).P*(vI o p' W H c').N=(vI o p' W H c').P*(vI o p W H c).N)(e2:(vI o p W H c).Q*(vI o p' W H c').N=(vI o p' W H c').Q*(vI o p W H c).N):c=c'/\p=p':=by
 obtain⟨x,y⟩:=pos_of (X:=img W H p c.1 c.2) (Y:=img W H p' c'.1 c'.2) ho1 ho2 h.b h.d h'.b h'.d e1 e2
 obtain⟨i1,x⟩:=im_inj h.b h'.b h.a0 h.a1 h'.a0 h'.a1 x
 obtain⟨i2,y⟩:=im_inj h.d h'.d h.c0 h.c1 h'.c0 h'.c1 y
 exact⟨Prod.ext i1 i2,po_eq h h' x y⟩
theorem vI_corner {o p:Po4}{W H:Nat}(ho1:0<o.b)(ho2:0<o.d)(h:Ins W H p){c:Pr}{x y:Int}(e1:(vI o p W H c).P*(vec o (rP (x,y))).N=(vec o (rP (x,y))).P*(vI o p W H c).N)(e2:(vI o p W H c).Q*(vec o (rP (x,y))).N=(vec o (rP (x,y))).Q*(vI o p W H c).N):False:=by
 obtain⟨a,_⟩:=pos_of (X:=img W H p c.1 c.2) (Y:=rP (x,y)) ho1 ho2 h.b h.d (by show(0:Int)<1;decide) (by show(0:Int)<1;decide) e1 e2
 exact im_nw h.nw.1 a
end Law
set_option maxRecDepth 100000
set_option maxHeartbeats 4000000
set_option linter.all false
namespace Law
open PySem L2 DL
structure PIn (z:Nat) (p q:Int):Prop where
 fr:Fr 4 p q
 p0:0<p
 p1:p<(z:Int)*q
 g:Int.gcd p q=1
 nw:∀k:Int,k*q≠p
 q3:q<=1000
theorem f_part {z:Nat}(z0:1<=z)(z1:z<=8){B:Int}(b0:3<=B)(b1:B<=1000)(x y:Int):∃p q,PIn z p q/\F_l_part [.int (z:Int),.int x,.int y,.int B]=.ok (.im (nD p q)):=by
 have m0:=Int.emod_nonneg x (show B - 1≠0 by lia)
 have m1:=Int.emod_lt_of_pos x (show 0<B - 1 by lia)
 obtain⟨bot,eb⟩:∃b,b=2+x % (B - 1):=⟨_,rfl⟩
 have r0:=Int.emod_nonneg y (show bot - 1≠0 by lia)
 have r1:=Int.emod_lt_of_pos y (show 0<bot - 1 by lia)
 have s0:=Int.emod_nonneg (x / 1000) (show(z:Int)≠0 by lia)
 have s1:=Int.emod_lt_of_pos (x / 1000) (show 0<(z:Int) by lia)
 obtain⟨s,es⟩:∃s,s=x / 1000 % (z:Int):=⟨_,rfl⟩
 obtain⟨r,er⟩:∃r,r=y % (bot - 1):=⟨_,rfl⟩
 rw[<-es] at s0 s1
 rw[<-er] at r0 r1
 have bb:2<=bot/\bot<=1000:=by lia
 have mb:=mul_bd (a:=s) (b:=bot) (A:=7) (B:=1000) s0 (by lia) (by lia) bb.2
 have p4:(10:Nat) ^ 4=10000:=rfl
 have hf:Fr 4 (s*bot+1+r) bot:=⟨by lia,by rw[p4];lia,by rw[p4];lia⟩
 obtain⟨p,q,el,hq,m,g⟩:=low_fr hf
 have hb:0<bot:=by lia
 have nm:∀k:Int,k*bot≠s*bot+1+r:=fun k e=>by
  have:1+r - 0=(k - s)*bot:=by rw[Int.sub_mul];lia
  have h1:1<=k - s\/k - s<=0:=by lia
  rcases h1 with h1|h1
  ·have:=Int.mul_le_mul_of_nonneg_right h1 (Int.le_of_lt hb);lia
  ·have:=Int.mul_le_mul_of_nonneg_right h1 (Int.le_of_lt hb);lia
 have q3:q<=1000:=by
  obtain⟨p',q',e',_,_,_,_,hle⟩:=low_spec (t:=s*bot+1+r) hb
  rw[el] at e'
  unfold nD at e'
  injection e' with e'
  injection e' with _ e'
  injection e' with e' _
  injection e' with e'
  lia
 refine⟨p,q,⟨hq,?_,?_,g,fun k e=>?_,q3⟩,?_⟩
 ·have h1:0<(s*bot+1+r)*q:=Int.mul_pos (by lia) hq.pos
  rw[<-m] at h1
  exact Int.pos_of_mul_pos_left h1 hb
 ·have h2:s*bot+1+r<(z:Int)*bot:=by
   have:=Int.mul_le_mul_of_nonneg_right (show s+1<=(z:Int) by lia) (Int.le_of_lt hb)
   rw[Int.add_mul] at this
   lia
  have h3:=Int.mul_lt_mul_of_pos_right h2 hq.pos
  rw[<-m,Int.mul_right_comm] at h3
  exact Int.lt_of_mul_lt_mul_right h3 (Int.le_of_lt hb)
 ·refine nm k (Int.eq_of_mul_eq_mul_right (a:=q) (by have:=hq.pos;lia) ?_)
  rw[<-m,<-e,Int.mul_right_comm]
 ·have e3:eOp gPlus (eOp gPlus (eOp gTimes (eOp gMod (eOp gFdiv (eVar 1) (eC (.int 1000))) (eVar 0)) (eVar 4)) (eC (.int 1))) (eOp gMod (eVar 2) (eOp DL.gSub (eVar 4) (eC (.int 1)))) [some (.im (.int (z:Int))),some (.im (.int x)),some (.im (.int y)),some (.im (.int B)),some (.im (.int bot))]=.ok (.int (s*bot+1+r)):=by
   rw[es,er]
   refine op_ok (op_ok (op_ok (op_ok (op_ok rfl rfl (gFd (by decide) (smI (by decide) (by decide)))) rfl (gM (by lia))) rfl (gT (smI (by lia) (by lia)) (smI (by lia) (by lia)))) rfl rfl) (op_ok rfl (op_ok rfl rfl rfl) (gM (by lia))) rfl
  refine(fn4 _ _ _ _ _ _).trans (fin_of (go (set_ok (d:=.int bot) (by rw[eb];exact op_ok rfl (op_ok rfl (op_ok rfl rfl rfl) (gM (by lia))) rfl)) (ret_ok (call_ok (aC e3 (a1 rfl)) (f_low hf (by decide)) (by rw[el];rfl)))))
structure PtOk (W H:Nat) (p:Po4):Prop where
 x:PIn W p.a p.b
 y:PIn H p.c p.d
theorem PtOk.ins {W H:Nat}{p:Po4}(h:PtOk W H p):Ins W H p:=⟨h.x.fr.pos,h.y.fr.pos,h.x.p0,h.x.p1,h.y.p0,h.y.p1,h.x.g,h.y.g,h.x.nw,h.y.nw⟩
theorem PtOk.ok {W H:Nat}{p:Po4}(h:PtOk W H p):PoOk 4 p:=⟨h.x.fr,h.y.fr⟩
theorem f_point {W H:Nat}(w0:1<=W)(w1:W<=8)(h0:1<=H)(h1:H<=8){B:Int}(b0:3<=B)(b1:B<=1000)(c:Int):∃p:Po4,PtOk W H p/\F_l_point [.int c,.int (W:Int),.int (H:Int),.int B]=.ok (.im p.D):=by
 obtain⟨es,hes,_,en⟩:=f_numbers c 4 (by lia)
 obtain⟨x0,x1,x2,x3,rfl⟩:∃x0 x1 x2 x3,es=[x0,x1,x2,x3]:=by
  match es,hes with
  |[x0,x1,x2,x3],_=>exact⟨x0,x1,x2,x3,rfl⟩
 obtain⟨a,b,na,fa⟩:=f_part w0 w1 b0 b1 x0 x1
 obtain⟨p,d,nc,fc⟩:=f_part h0 h1 b0 b1 x2 x3
 refine⟨⟨a,b,p,d⟩,⟨na,nc⟩,(fn4 _ _ _ _ _ _).trans (fin_of (go (set_ok (call_ok (aC rfl (a1 rfl)) en rfl)) (ret_ok (tup2 (call_ok (aC rfl (aC (ix_ok (ds:=[x0,x1,x2,x3].map D.int) rfl rfl (atI0 _ _)) (aC (ix_ok (ds:=[x0,x1,x2,x3].map D.int) rfl rfl (atI1 _ _ _)) (a1 rfl)))) fa rfl) (call_ok (aC rfl (aC (ix_ok (ds:=[x0,x1,x2,x3].map D.int) rfl rfl (atI2 _ _ _ _)) (aC (ix_ok (ds:=[x0,x1,x2,x3].map D.int) rfl rfl (atI3 _ _ _ _ _)) (a1 rfl)))) fc rfl)))))⟩
theorem po_eqD (p q:Po4):D.eq p.D q.D=true↔p=q:=by
 cases p;cases q
 simp[Po4.D,nD,D.eq,D.eqs]
 constructor
 ·rintro⟨⟨a,b⟩,c,d⟩;exact⟨a,b,c,d⟩
 ·rintro⟨a,b,c,d⟩;exact⟨⟨a,b⟩,c,d⟩
theorem po_dep (p:Po4):p.D.dep<=60:=by simp[Po4.D,nD,D.dep,D.deps]
theorem inD_po (p:Po4)(ps:List Po4):inD p.D (ps.map Po4.D)=true↔p∈ps:=by
 unfold inD
 rw[List.any_map,List.any_eq_true]
 constructor
 ·rintro⟨q,hq,e⟩
  rw[<-(po_eqD q p).mp e];exact hq
 ·intro h
  exact⟨p,h,(po_eqD p p).mpr rfl⟩
noncomputable def ppB:DSt->M O:=(sSeq (sSet 6 (eCall F_l_point (aCons (eVar 5) (aCons (eVar 1) (aCons (eVar 2) (aCons (eVar 3) aNil))))))
   (sIf (tView 4 (DL.tB (eOp gNotIn (eVar 6) (eVar 4)))) (sApp 4 (eVar 6)) sNil))
theorem pp_turn (v0:Option S){W H:Nat}(w0:1<=W)(w1:W<=8)(h0:1<=H)(h1:H<=8){B:Int}(b0:3<=B)(b1:B<=1000)(c:Int)(ps:List Po4)(hp:∀p∈ps,PtOk W H p)(nd:ps.Nodup)(hl:ps.length<=900)(v6:Option S) :
  ∃(ps':List Po4) (w6:Option S),(∀p∈ps',PtOk W H p)/\ps'.Nodup/\ps'.length<=ps.length+1/\0<ps'.length/\ppB [v0,some (.im (.int (W:Int))),some (.im (.int (H:Int))),some (.im (.int B)),some (.ow (ps.map Po4.D)),some (.im (.int c)),v6] =
   .ok (.nx [v0,some (.im (.int (W:Int))),some (.im (.int (H:Int))),some (.im (.int B)),some (.ow (ps'.map Po4.D)),some (.im (.int c)),w6]):=by
 obtain⟨p,ok,e⟩:=f_point w0 w1 h0 h1 b0 b1 c
 have dp:D.deps (ps.map Po4.D)<=60:=deps_le fun d hd=>by
  obtain⟨q,_,rfl⟩:=List.mem_map.mp hd
  exact po_dep q
 have st:tView 4 (DL.tB (eOp gNotIn (eVar 6) (eVar 4))) [v0,some (.im (.int (W:Int))),some (.im (.int (H:Int))),some (.im (.int B)),some (.ow (ps.map Po4.D)),some (.im (.int c)),some (.im p.D)]=.ok (!inD p.D (ps.map Po4.D)):=view_ok (tB_b (op_ok (x:=p.D) (y:=.lst (ps.map Po4.D)) rfl rfl (if_pos dp)))
 by_cases hm:p∈ps
 ·refine⟨ps,_,hp,nd,by lia,List.length_pos_of_mem hm,go (set_ok (call_ok (aC rfl (aC rfl (aC rfl (a1 rfl)))) e rfl)) (if_skip (st.trans (by rw[(inD_po p ps).mpr hm];rfl)))⟩
 ·refine⟨ps++[p],some (.im p.D),fun q hq=>?_,?_,by rw[List.length_append];exact Nat.le_refl _,by rw[List.length_append,List.length_singleton];lia,go (set_ok (call_ok (aC rfl (aC rfl (aC rfl (a1 rfl)))) e rfl)) (if_take (st.trans (by rw[show inD p.D (ps.map Po4.D)=false from Bool.eq_false_iff.mpr fun z=>hm ((inD_po p ps).mp z)];rfl)) ((app_ok (ds:=ps.map Po4.D) (d:=p.D) rfl rfl (by rw[List.length_map];lia)).trans ?_))⟩
  ·rcases List.mem_append.mp hq with z|z
   ·exact hp q z
   ·rw[List.mem_singleton.mp z];exact ok
  ·refine List.nodup_append.mpr ⟨nd,by simp,fun a ha b hb=>?_⟩
   rw[List.mem_singleton.mp hb]
   rintro rfl
   exact hm ha
  ·rw[List.map_append];rfl
theorem pp_loop (v0:Option S){W H:Nat}(w0:1<=W)(w1:W<=8)(h0:1<=H)(h1:H<=8){B:Int}(b0:3<=B)(b1:B<=1000):∀(cs:List Int) (ps:List Po4) (v5 v6:Option S),(∀p∈ps,PtOk W H p)->ps.Nodup->ps.length+cs.length<=900 ->
  ∃(ps':List Po4) (w5 w6:Option S),(∀p∈ps',PtOk W H p)/\ps'.Nodup/\ps'.length<=ps.length+cs.length/\(0<ps.length\/cs≠[]->0<ps'.length)/\loopD (gNm 5) ppB (cs.map D.int) [v0,some (.im (.int (W:Int))),some (.im (.int (H:Int))),some (.im (.int B)),some (.ow (ps.map Po4.D)),v5,v6] =
   .ok (.nx [v0,some (.im (.int (W:Int))),some (.im (.int (H:Int))),some (.im (.int B)),some (.ow (ps'.map Po4.D)),w5,w6])
 |[],ps,v5,v6,hp,nd,_=>⟨ps,v5,v6,hp,nd,by simp,fun h=>h.elim id fun z=>absurd rfl z,rfl⟩
 |c::cs,ps,v5,v6,hp,nd,hl=>by
  rw[List.length_cons] at hl
  obtain⟨p1,a6,o1,n1,l1,z1,e1⟩:=pp_turn v0 w0 w1 h0 h1 b0 b1 c ps hp nd (by lia) v6
  obtain⟨p2,w5,w6,o2,n2,l2,z2,e2⟩:=pp_loop v0 w0 w1 h0 h1 b0 b1 cs p1 (some (.im (.int c))) a6 o1 n1 (by lia)
  refine⟨p2,w5,w6,o2,n2,by rw[List.length_cons];lia,fun _=>z2 (.inl z1),?_⟩
  rw[List.map_cons]
  exact(loop_nx (sd1:=[v0,some (.im (.int (W:Int))),some (.im (.int (H:Int))),some (.im (.int B)),some (.ow (ps.map Po4.D)),some (.im (.int c)),v6]) rfl e1).trans e2
theorem f_people {W H:Nat}(w0:1<=W)(w1:W<=8)(h0:1<=H)(h1:H<=8){B:Int}(b0:3<=B)(b1:B<=1000)(cs:List Int)(hc:cs≠[])(hl:cs.length<=20):∃ps:List Po4,(∀p∈ps,PtOk W H p)/\ps.Nodup/\ps.length<=20/\0<ps.length/\F_l_people [.lst (cs.map D.int),.int (W:Int),.int (H:Int),.int B]=.ok (.ow (ps.map Po4.D)):=by
 obtain⟨ps,w5,w6,ok,nd,l,z,e⟩:=pp_loop (some (.im (.lst (cs.map D.int)))) w0 w1 h0 h1 b0 b1 cs [] none none (fun p h=>by cases h) List.nodup_nil (by simp;lia)
 refine⟨ps,ok,nd,by simp at l;lia,z (.inr hc),(fn4 _ _ _ _ _ _).trans (fin_of (go (own_nil 4 _) (go (f:=sFor (iSeq (eVar 0)) (gNm 5) ppB) ((sFor_ok (seq_l rfl)).trans e) rfl)))⟩
end Law
set_option maxRecDepth 100000
set_option maxHeartbeats 4000000
set_option linter.all false
namespace Law
open PySem L2 DL
def cz (ns:List Int)(k:Nat):Int:=(ns[k]?).getD 0
theorem f_cell (ns:List Int)(k:Nat)(hl:ns.length<=63):F_l_cell [.lst (ns.map D.int),.int (k:Int)]=.ok (.im (.int (cz ns k))):=by
 have e1:(k:Int)+1=((k+1:Nat):Int):=by lia
 have hcut:cutD (ns.map D.int) (some (k:Int)) (some ((k:Int)+1))++[D.int 0]=D.int (cz ns k)::(if k<ns.length then [D.int 0] else []):=by
  unfold cutD
  rw[e1,HT.sIx_nat,HT.sIx_nat,List.length_map]
  by_cases hk:k<ns.length
  ·rw[Nat.min_eq_left (by lia),Nat.min_eq_left (by lia),if_pos hk,<-List.map_drop,<-List.map_take,List.drop_eq_getElem_cons hk]
   have:k+1 - k=1:=by lia
   rw[this,List.take_succ_cons,List.take_zero]
   simp[cz,hk]
  ·rw[Nat.min_eq_right (by lia),Nat.min_eq_right (by lia),if_neg hk,Nat.sub_self,List.take_zero]
   have:cz ns k=0:=by unfold cz;rw[List.getElem?_eq_none (by lia)];rfl
   rw[this];rfl
 have sl:∀r:List (Option S),eSl (eVar 0) (oSome (eVar 1)) (oSome (eOp gPlus (eVar 1) (eC (.int 1)))) (some (.im (.lst (ns.map D.int)))::some (.im (.int (k:Int)))::r)=.ok (.lst (cutD (ns.map D.int) (some (k:Int)) (some ((k:Int)+1)))):=fun r=>rfl
 have lc:(cutD (ns.map D.int) (some (k:Int)) (some ((k:Int)+1))).length<=63:=by
  unfold cutD
  rw[List.length_take,List.length_drop,List.length_map]
  lia
 have pl:=plus_l (xs:=cutD (ns.map D.int) (some (k:Int)) (some ((k:Int)+1))) (ys:=[D.int 0]) (by rw[List.length_singleton];lia)
 rw[hcut] at pl
 generalize ns.map D.int=N at sl pl
 refine(fn2 _ _ _ _).trans (fin_of (ret_ok (op_ok (op_ok (sl _) (lst_of (a1 rfl) rfl) pl) rfl ?_)))
 simp[gIx,atI0]
theorem cut_ints (ns:List Int)(k:Nat):∃ms:List Int,ms.length<=k/\cutD (ns.map D.int) (some ((3:Nat):Int)) (some ((3+k:Nat):Int))=ms.map D.int:=by
 unfold cutD
 rw[HT.sIx_nat,HT.sIx_nat,List.length_map,<-List.map_drop,<-List.map_take]
 refine⟨_,?_,rfl⟩
 rw[List.length_take]
 lia
theorem mod_nat (x:Int){n:Int}(h:0<n):∃k:Nat,x % n=(k:Int)/\(k:Int)<n:=⟨(x % n).toNat,by have:=Int.emod_nonneg x (show n≠0 by lia);lia,by have:=Int.emod_nonneg x (show n≠0 by lia);have:=Int.emod_lt_of_pos x h;lia⟩
structure Drw (W H:Nat) (ps:List Po4) (one oth:Nat):Prop where
 w0:1<=W
 w1:W<=8
 h0:1<=H
 h1:H<=8
 ok:∀p∈ps,PtOk W H p
 nd:ps.Nodup
 len:ps.length<=20
 o1:one<ps.length
 o2:oth<ps.length
theorem tup5 {fa fb fc fd fe:DSt->M D}{sd:DSt}{a b c d e:D}(h1:fa sd=.ok a)(h2:fb sd=.ok b)(h3:fc sd=.ok c)(h4:fd sd=.ok d)(h5:fe sd=.ok e):eTup (aCons fa (aCons fb (aCons fc (aCons fd (aCons fe aNil))))) sd=.ok (.tup [a,b,c,d,e]):=by
 unfold eTup;rw[aC h1 (aC h2 (aC h3 (aC h4 (a1 h5))))];rfl
theorem bot_ix (i:Nat)(hi:i<4):∃B:Int,3<=B/\B<=1000/\gIx (.lst [.int 9,.int 3,.int 9,.int 1000]) (.int (i:Int))=.ok (.int B):=by
 rcases(by lia:i=0\/i=1\/i=2\/i=3) with rfl|rfl|rfl|rfl
 ·exact⟨9,by decide,by decide,rfl⟩
 ·exact⟨3,by decide,by decide,rfl⟩
 ·exact⟨9,by decide,by decide,rfl⟩
 ·exact⟨1000,by decide,by decide,rfl⟩
theorem md_ok {a b:Int}{v:Nat}{x:Int}{sd:DSt}(ha:0<a)(ha':a<=100000)(hb:0<b)(hv:eVar v sd=.ok (.int x)):eOp gMod (eOp gFdiv (eVar v) (eC (.int a))) (eC (.int b)) sd=.ok (.int (x / a % b)):=op_ok (op_ok hv rfl (gFd ha (smI (by lia) (by lia)))) rfl (gM hb)
end Law
set_option maxRecDepth 100000
set_option maxHeartbeats 4000000
set_option linter.all false
namespace Law
open PySem L2 DL
theorem filQ {α:Type}{gt:D->DSt->M DSt}{fc:DSt->M Bool}{fe:DSt->M D}{sd0:DSt}(e g:α->D)(q:α->Bool):∀l:List α,(∀a∈l,∃sd1,gt (e a) sd0=.ok sd1/\fc sd1=.ok (q a)/\fe sd1=.ok (g a))->filD gt fc fe sd0 (l.map e)=.ok ((l.filter q).map g)
 |[],_=>rfl
 |a::l,h=>by
  obtain⟨sd1,h1,h2,h3⟩:=h a (by simp)
  have ih:=filQ (gt:=gt) (fc:=fc) (fe:=fe) (sd0:=sd0) e g q l fun b hb=>h b (by simp[hb])
  rw[List.map_cons]
  cases z:q a with
  |true =>
   rw[z] at h2
   rw[List.filter_cons_of_pos z]
   simp only[filD,h1,h2,h3,ih,List.map_cons]
  |false =>
   rw[z] at h2
   rw[List.filter_cons_of_neg (by rw[z];decide)]
   simp only[filD,h1,h2,ih]
theorem compIf_ok {α:Type}{fi:DSt->M (List D)}{n0:Nat}{caps:List Nat}{gt:D->DSt->M DSt}{fc:DSt->M Bool}{fe:DSt->M D}{sd:DSt}(e g:α->D)(q:α->Bool){l:List α}(hi:fi sd=.ok (l.map e))(hl:l.length<=1000)(h:∀a∈l,∃sd1,gt (e a) (sdC n0 caps sd)=.ok sd1/\fc sd1=.ok (q a)/\fe sd1=.ok (g a)) :
  eNew (fCompIf fi n0 caps gt fc fe) sd=.ok (.lst ((l.filter q).map g)):=by
 unfold eNew fCompIf
 rw[hi,M.bind_ok,few_of (by rw[List.length_map];lia),if_pos rfl,filQ e g q l h]
 rfl
theorem ltC_lex (a b:Pr):lexK (keyRow (cD a)) (keyRow (cD b))=true↔ltC a b:=by
 show lexK [.inl a.1,.inl a.2] [.inl b.1,.inl b.2]=true↔_
 unfold ltC
 simp only[lexK,ltK]
 by_cases h1:a.1=b.1
 ·rw[h1,if_pos rfl]
  by_cases h2:a.2=b.2
  ·rw[h2,if_pos rfl];simp
  ·rw[if_neg (by intro z;injection z with z;exact h2 z)]
   simp
 ·rw[if_neg (by intro z;injection z with z;exact h1 z)]
  simp[h1]
theorem ltC_trans {a b c:Pr}(h1:ltC a b)(h2:ltC b c):ltC a c:=by unfold ltC at *;lia
theorem ltC_irr {a:Pr}:¬ltC a a:=by unfold ltC;lia
theorem ltC_tri {a b:Pr}(h:¬ltC a b)(hn:a≠b):ltC b a:=by
 have:a.1≠b.1\/a.2≠b.2:=by
  by_cases h1:a.1=b.1
  ·exact .inr fun h2=>hn (Prod.ext h1 h2)
  ·exact .inl h1
 unfold ltC at *
 lia
def insC (x:Pr):List Pr->List Pr
 |[]=>[x]
 |y::r=>if ltC y x then y::insC x r else x::y::r
def sortC:List Pr->List Pr
 |[]=>[]
 |x::r=>insC x (sortC r)
theorem insC_D (x:Pr):∀l:List Pr,insD (cD x) (l.map cD)=(insC x l).map cD
 |[]=>rfl
 |y::r=>by
  rw[List.map_cons,insD,insC]
  by_cases h:ltC y x
  ·rw[if_pos ((ltC_lex y x).mpr h),if_pos h,insC_D x r,List.map_cons]
  ·rw[if_neg (fun z=>h ((ltC_lex y x).mp z)),if_neg h,List.map_cons,List.map_cons]
theorem sortC_D:∀l:List Pr,sortDs (l.map cD)=(sortC l).map cD
 |[]=>rfl
 |x::r=>by rw[List.map_cons,sortDs,sortC_D r,insC_D,sortC]
theorem insC_mem {x z:Pr}:∀{l:List Pr},z∈insC x l↔z=x\/z∈l
 |[]=>by simp[insC]
 |y::r=>by
  rw[insC]
  split
  ·rw[List.mem_cons,insC_mem,List.mem_cons]
   constructor
   ·rintro(h|h|h)
    ·exact .inr (.inl h)
    ·exact .inl h
    ·exact .inr (.inr h)
   ·rintro(h|h|h)
    ·exact .inr (.inl h)
    ·exact .inl h
    ·exact .inr (.inr h)
  ·rw[List.mem_cons]
theorem sortC_mem {z:Pr}:∀{l:List Pr},z∈sortC l↔z∈l
 |[]=>Iff.rfl
 |x::r=>by rw[sortC,insC_mem,sortC_mem,List.mem_cons]
theorem insC_len (x:Pr):∀l:List Pr,(insC x l).length=l.length+1
 |[]=>rfl
 |y::r=>by
  rw[insC]
  split
  ·rw[List.length_cons,insC_len x r,List.length_cons]
  ·rfl
theorem sortC_len:∀l:List Pr,(sortC l).length=l.length
 |[]=>rfl
 |x::r=>by rw[sortC,insC_len,sortC_len r,List.length_cons]
theorem insC_pw (x:Pr):∀l:List Pr,l.Pairwise ltC->x ∉ l->(insC x l).Pairwise ltC
 |[],_,_=>by simp[insC]
 |y::r,h,hx=>by
  rw[List.pairwise_cons] at h
  rw[insC]
  split
  ·rename_i hl
   rw[List.pairwise_cons]
   refine⟨fun z hz=>?_,insC_pw x r h.2 fun z=>hx (List.mem_cons_of_mem _ z)⟩
   rcases insC_mem.mp hz with rfl|hz
   ·exact hl
   ·exact h.1 z hz
  ·rename_i hl
   have hxy:ltC x y:=ltC_tri hl fun z=>hx (z▸List.mem_cons_self)
   rw[List.pairwise_cons]
   refine⟨fun z hz=>?_,List.pairwise_cons.mpr h⟩
   rcases List.mem_cons.mp hz with rfl|hz
   ·exact hxy
   ·exact ltC_trans hxy (h.1 z hz)
theorem sortC_pw:∀l:List Pr,l.Nodup->(sortC l).Pairwise ltC
 |[],_=>List.Pairwise.nil
 |x::r,h=>by
  rw[List.nodup_cons] at h
  exact insC_pw x _ (sortC_pw r h.2) fun z=>h.1 (sortC_mem.mp z)
theorem pw_ext:∀l l':List Pr,l.Pairwise ltC->l'.Pairwise ltC->(∀z,z∈l↔z∈l')->l=l'
 |[],[],_,_,_=>rfl
 |[],y::r,_,_,h=>by have:=(h y).mpr List.mem_cons_self;cases this
 |x::r,[],_,_,h=>by have:=(h x).mp List.mem_cons_self;cases this
 |x::r,y::s,h1,h2,h=>by
  rw[List.pairwise_cons] at h1 h2
  have e:x=y:=by
   rcases List.mem_cons.mp ((h x).mp List.mem_cons_self) with z|z
   ·exact z
   ·rcases List.mem_cons.mp ((h y).mpr List.mem_cons_self) with w|w
    ·exact w.symm
    ·exact(ltC_irr (ltC_trans (h1.1 y w) (h2.1 x z))).elim
  subst e
  have:r=s:=pw_ext r s h1.2 h2.2 fun z=>by
   constructor
   ·intro hz
    rcases List.mem_cons.mp ((h z).mp (List.mem_cons_of_mem _ hz)) with rfl|w
    ·exact(ltC_irr (h1.1 z hz)).elim
    ·exact w
   ·intro hz
    rcases List.mem_cons.mp ((h z).mpr (List.mem_cons_of_mem _ hz)) with rfl|w
    ·exact(ltC_irr (h2.1 z hz)).elim
    ·exact w
  rw[this]
theorem cond_cD (l:List Pr):condD (l.map cD)=true:=by
 unfold condD
 cases l with
 |nil=>rfl
 |cons c l =>
  rw[List.map_cons]
  show((cD c::l.map cD).all (fun e=>rowSig e==some [0,0])&&_&&_)=true
  have:(cD c::l.map cD).all (fun e=>rowSig e==some [0,0])=true:=by
   rw[<-List.map_cons (f:=cD),List.all_map,List.all_eq_true]
   intro x _
   rfl
  rw[this]
  rfl
theorem sort_ok {l:List Pr}(hl:l.length<=100000):bSortG [.lst (l.map cD)]=.ok (.lst ((sortC l).map cD)):=by
 show sortGD _=_
 unfold sortGD
 rw[few_of (by rw[List.length_map];lia),cond_cD,sortC_D]
 rfl
def isSeen (r:Rw):Bool:=D.eq r.wd sSeen
def WdOk (d:D):Prop:=d=sSeen\/d=sPerson\/d=sCorner
theorem seen_ss:D.eq sSeen sSeen=true:=D.eq_refl _
theorem seen_ps:D.eq sPerson sSeen=false:=by decide
theorem seen_cs:D.eq sCorner sSeen=false:=by decide
theorem eq_seen {d:D}(h:WdOk d):gEq d (.str (Str.ofString "seen"))=.ok (.bl (D.eq d sSeen)):=by
 rcases h with rfl|rfl|rfl<;>exact gEq_b (by simp[sSeen,sPerson,sCorner,D.dep])
theorem row_c {o q:Po4}{W H:Int}{oth:D}{K:List Ev}{c:Pr}{r:Rw}(h:r∈(rowP o q W H oth K c).toList):r.c=c/\(vI o q W H c).nz/\(SeenP o q W H K c->r.wd=sSeen)/\(¬SeenP o q W H K c->r.wd=(((atW K (wV (vI o q W H c))).map (·.x)).getD []).headD .non):=by
 unfold rowP at h
 split at h
 ·rename_i hz
  split at h
  ·rename_i hs
   rw[List.mem_singleton.mp h]
   exact⟨rfl,hz,fun _=>rfl,fun z=>absurd hs z⟩
  ·rename_i hs
   rw[List.mem_singleton.mp h]
   exact⟨rfl,hz,fun z=>absurd z hs,fun _=>rfl⟩
 ·cases h
theorem row_ex {o q:Po4}{W H:Int}{oth:D}{K:List Ev}{c:Pr}(hz:(vI o q W H c).nz):∃r,r∈(rowP o q W H oth K c).toList:=by
 unfold rowP
 rw[if_pos hz]
 split
 ·exact⟨_,List.mem_singleton.mpr rfl⟩
 ·exact⟨_,List.mem_singleton.mpr rfl⟩
theorem rows_sub (o q:Po4)(W H:Int)(oth:D)(K:List Ev):∀cs:List Pr,((rowsP o q W H oth K cs).map (·.c)).Sublist cs
 |[]=>List.Sublist.refl _
 |c::cs=>by
  have ih:=rows_sub o q W H oth K cs
  unfold rowsP at *
  rw[List.flatMap_cons,List.map_append]
  have hc:∀r∈(rowP o q W H oth K c).toList,r.c=c:=fun r hr=>(row_c hr).1
  have hl:=tn_len (rowP o q W H oth K c)
  generalize (rowP o q W H oth K c).toList=l at hc hl
  match l,hl with
  |[],_=>exact List.Sublist.cons _ ih
  |[r],_ =>
   rw[List.map_singleton,hc r List.mem_cons_self]
   exact ih.cons_cons c
theorem rows_mem {o q:Po4}{W H:Int}{oth:D}{K:List Ev}{cs:List Pr}{r:Rw}(h:r∈rowsP o q W H oth K cs):r.c∈cs/\r∈(rowP o q W H oth K r.c).toList:=by
 obtain⟨c,hc,h⟩:=List.mem_flatMap.mp h
 have:=(row_c h).1
 rw[this]
 exact⟨hc,h⟩
theorem KP_wd {W H:Nat}{ps:List Po4}{one:Nat}{o:Po4}{m:Nat}(h:Hall W H ps one o m){oth:Nat}{q:Po4}(hq:ps[oth]?=some q){r:Rw}(hr:r∈rowsP o q W H (.int (oth:Int)) (KP o W H ps m) (cellsL m)):WdOk r.wd/\(isSeen r=true↔SeenP o q W H (KP o W H ps m) r.c):=by
 obtain⟨hc,hr⟩:=rows_mem hr
 obtain⟨_,hz,h1,h2⟩:=row_c hr
 unfold isSeen
 by_cases hs:SeenP o q W H (KP o W H ps m) r.c
 ·rw[h1 hs]
  exact⟨.inl rfl,fun _=>hs,fun _=>seen_ss⟩
 ·obtain⟨f,ef,hf,_⟩:=KP_at h hq hc hz
  obtain⟨c',_,t,ht,_,rfl⟩:=EP_mem.mp hf
  have e:r.wd=t.wd:=by rw[h2 hs,ef];rfl
  rw[e]
  rcases List.mem_append.mp ht with u|u
  ·obtain⟨x,_,rfl⟩:=List.mem_map.mp u
   exact⟨.inr (.inr rfl),fun z=>absurd (z.symm.trans seen_cs) (by decide),fun z=>absurd z hs⟩
  ·obtain⟨j,p,_,rfl⟩:=(enumP_mem 0 ps t).mp u
   exact⟨.inr (.inl rfl),fun z=>absurd (z.symm.trans seen_ps) (by decide),fun z=>absurd z hs⟩
noncomputable def rowsL (o q:Po4)(W H:Nat)(ps:List Po4)(oth m:Nat):List Rw:=rowsP o q W H (.int (oth:Int)) (KP o W H ps m) (cellsL m)
noncomputable def seenC (o q:Po4)(W H:Nat)(ps:List Po4)(oth m:Nat):List Pr:=((rowsL o q W H ps oth m).filter isSeen).map (·.c)
theorem seenC_pw {W H:Nat}{ps:List Po4}{one:Nat}{o:Po4}{m:Nat}(h:Hall W H ps one o m)(oth:Nat)(q:Po4):(seenC o q W H ps oth m).Pairwise ltC:=by
 have s1:(seenC o q W H ps oth m).Sublist ((rowsL o q W H ps oth m).map (·.c)):=List.filter_sublist.map _
 exact(cells_lt m h.m4).sublist (s1.trans (rows_sub o q W H _ _ (cellsL m)))
theorem seenC_mem {W H:Nat}{ps:List Po4}{one:Nat}{o:Po4}{m:Nat}(h:Hall W H ps one o m){oth:Nat}{q:Po4}(hq:ps[oth]?=some q)(c:Pr):c∈seenC o q W H ps oth m↔c∈cellsL m/\(vI o q W H c).nz/\Mn o W H ps m (vI o q W H c):=by
 unfold seenC
 rw[List.mem_map]
 constructor
 ·rintro⟨r,hr,rfl⟩
  obtain⟨hr,hs⟩:=List.mem_filter.mp hr
  obtain⟨hc,hr'⟩:=rows_mem hr
  have hz:=(row_c hr').2.1
  exact⟨hc,hz,(seen_iff h hq hc hz).mp ((KP_wd h hq hr).2.mp hs)⟩
 ·rintro⟨hc,hz,mn⟩
  obtain⟨r,hr⟩:=row_ex (oth:=.int (oth:Int)) (K:=KP o W H ps m) hz
  have er:=(row_c hr).1
  have hm:r∈rowsL o q W H ps oth m:=List.mem_flatMap.mpr ⟨c,hc,hr⟩
  refine⟨r,List.mem_filter.mpr ⟨hm,(KP_wd h hq hm).2.mpr ?_⟩,er⟩
  rw[er]
  exact(seen_iff h hq hc hz).mpr mn
theorem rows_len {W H:Nat}{ps:List Po4}{one:Nat}{o:Po4}{m:Nat}(h:Hall W H ps one o m)(oth:Nat)(q:Po4):(rowsL o q W H ps oth m).length<=41:=by
 have:=(rows_sub o q W H (.int (oth:Int)) (KP o W H ps m) (cellsL m)).length_le
 rw[List.length_map] at this
 exact Nat.le_trans this (cells_len m h.m4)
end Law
set_option maxRecDepth 100000
set_option maxHeartbeats 4000000
set_option linter.all false
namespace Law
open PySem L2 DL
def Nst (o:Po4)(W H:Nat)(ps:List Po4)(m:Nat)(v:Vc)(wd wh:D):Prop:=∃c∈cellsL m,∃t∈things W H ps,(vI o t.p W H c).nz/\wV (vI o t.p W H c)=wV v/\Mn o W H ps m (vI o t.p W H c)/\wd=t.wd/\wh=t.wh
def RowIs (o q:Po4)(W H:Nat)(ps:List Po4)(oth m:Nat)(r:Rw):Prop:=r.c∈cellsL m/\(vI o q W H r.c).nz/\((Mn o W H ps m (vI o q W H r.c)/\r.wd=sSeen/\r.wh=.int (oth:Int))\/(¬Mn o W H ps m (vI o q W H r.c)/\Nst o W H ps m (vI o q W H r.c) r.wd r.wh))
theorem VV_th {o:Po4}{W H:Nat}{ps:List Po4}{cs:List Pr}{c:Pr}(hc:c∈cs){t:Th}(ht:t∈things W H ps):VV o W H ps cs (vI o t.p W H c):=by
 refine⟨c,hc,?_⟩
 rcases List.mem_append.mp ht with q|q
 ·obtain⟨r,hr,rfl⟩:=List.mem_map.mp q
  exact .inr ⟨r,hr,rfl⟩
 ·obtain⟨j,p,e,rfl⟩:=(enumP_mem 0 ps t).mp q
  exact .inl ⟨j,p,e,rfl⟩
theorem th_form {W H:Nat}{ps:List Po4}{t:Th}(ht:t∈things W H ps):(∃r∈rimL W H,t=rT r)\/∃(k:Nat) (p:Po4),ps[k]?=some p/\t=⟨p,sPerson,.int (k:Int)⟩:=by
 rcases List.mem_append.mp ht with q|q
 ·obtain⟨r,hr,rfl⟩:=List.mem_map.mp q
  exact .inl ⟨r,hr,rfl⟩
 ·obtain⟨j,p,e,rfl⟩:=(enumP_mem 0 ps t).mp q
  exact .inr ⟨j,p,e,by rw[Nat.zero_add]⟩
theorem nst_uniq {W H:Nat}{ps:List Po4}{one:Nat}{o:Po4}{m:Nat}(h:Hall W H ps one o m)(pe:Peo W H ps){v:Vc}{wd wh wd' wh':D}(h1:Nst o W H ps m v wd wh)(h2:Nst o W H ps m v wd' wh'):wd=wd'/\wh=wh':=by
 obtain⟨c1,hc1,t1,ht1,z1,w1,m1,rfl,rfl⟩:=h1
 obtain⟨c2,hc2,t2,ht2,z2,w2,m2,rfl,rfl⟩:=h2
 have io:=pe.ins o (List.mem_of_getElem? h.me)
 have hw:=w1.trans w2.symm
 have n1:=m1 _ (VV_th hc2 ht2) z2 hw.symm
 have n2:=m2 _ (VV_th hc1 ht1) z1 hw
 obtain⟨e1,e2⟩:=eqV z1 z2 hw n2 n1
 rcases th_form ht1 with⟨r1,hr1,rfl⟩|⟨k1,p1,ep1,rfl⟩
 ·rcases th_form ht2 with⟨r2,hr2,rfl⟩|⟨k2,p2,ep2,rfl⟩
  ·exact⟨rfl,rfl⟩
  ·exact(vI_corner (x:=imX W r1.1 1 c1.1) (y:=imX H r1.2 1 c1.2) io.b io.d (pe.ins p2 (List.mem_of_getElem? ep2)) (c:=c2) e1.symm e2.symm).elim
 ·rcases th_form ht2 with⟨r2,hr2,rfl⟩|⟨k2,p2,ep2,rfl⟩
  ·exact(vI_corner (x:=imX W r2.1 1 c2.1) (y:=imX H r2.2 1 c2.2) io.b io.d (pe.ins p1 (List.mem_of_getElem? ep1)) (c:=c1) e1 e2).elim
  ·obtain⟨_,rfl⟩:=vI_inj io.b io.d (pe.ins p1 (List.mem_of_getElem? ep1)) (pe.ins p2 (List.mem_of_getElem? ep2)) e1 e2
   rw[same_ix pe.nd ep1 ep2]
   exact⟨rfl,rfl⟩
theorem row_is {W H:Nat}{ps:List Po4}{one:Nat}{o:Po4}{m:Nat}(h:Hall W H ps one o m){oth:Nat}{q:Po4}(hq:ps[oth]?=some q){r:Rw}(hr:r∈rowsL o q W H ps oth m):RowIs o q W H ps oth m r:=by
 obtain⟨hc,hr⟩:=rows_mem hr
 have hz:=(row_c hr).2.1
 have si:=seen_iff h hq hc hz
 refine⟨hc,hz,?_⟩
 unfold rowP at hr
 rw[if_pos hz] at hr
 by_cases hs:SeenP o q W H (KP o W H ps m) r.c
 ·rw[if_pos hs] at hr
  have e:=List.mem_singleton.mp hr
  exact .inl ⟨si.mp hs,by rw[e],by rw[e]⟩
 ·rw[if_neg hs] at hr
  obtain⟨f,ef,hf,_⟩:=KP_at h hq hc hz
  have hm:f∈KP o W H ps m:=(atW_some ef).1
  have hw:=(atW_some ef).2
  obtain⟨c',hc',t,ht,hz',rfl⟩:=EP_mem.mp hf
  have e:=List.mem_singleton.mp hr
  rw[ef] at e
  refine .inr ⟨fun z=>hs (si.mpr z),c',hc',t,ht,hz',hw,fun v' hv' hz2 hw2 hlt=>?_,by rw[e];rfl,by rw[e];rfl⟩
  have tt:=KP_told h
  obtain⟨y,hy⟩:=v_EP hv' hz2
  obtain⟨g,hg,gw,gl⟩:=tt.low _ hy
  have:g=evP (vI o t.p W H c') [t.wd,t.wh]:=uniq_w tt.nd hg hm (gw.trans hw2)
  rw[this] at gl
  exact gl ((evP_lt (VV_N h hv') (VV_N h (VV_th hc' ht)) hz2 hz' hw2).mpr hlt)
theorem row_iff {W H:Nat}{ps:List Po4}{one:Nat}{o:Po4}{m:Nat}(h:Hall W H ps one o m)(pe:Peo W H ps){oth:Nat}{q:Po4}(hq:ps[oth]?=some q)(r:Rw):r∈rowsL o q W H ps oth m↔RowIs o q W H ps oth m r:=by
 refine⟨row_is h hq,fun hr=>?_⟩
 obtain⟨hc,hz,hh⟩:=hr
 obtain⟨r',hr'⟩:=row_ex (oth:=.int (oth:Int)) (K:=KP o W H ps m) hz
 have hm:r'∈rowsL o q W H ps oth m:=List.mem_flatMap.mpr ⟨r.c,hc,hr'⟩
 have ec:=(row_c hr').1
 obtain⟨_,_,hh'⟩:=row_is h hq hm
 rw[ec] at hh'
 have e:r'=r:=by
  have:r'.wd=r.wd/\r'.wh=r.wh:=by
   rcases hh with⟨a1,a2,a3⟩|⟨a1,a2⟩
   ·rcases hh' with⟨b1,b2,b3⟩|⟨b1,b2⟩
    ·exact⟨b2.trans a2.symm,b3.trans a3.symm⟩
    ·exact absurd a1 b1
   ·rcases hh' with⟨b1,b2,b3⟩|⟨b1,b2⟩
    ·exact absurd b1 a1
    ·exact nst_uniq h pe b2 a2
  cases r;cases r'
  simp only at ec this
  rw[ec,this.1,this.2]
 rw[<-e]
 exact hm
theorem rows_nd {W H:Nat}{ps:List Po4}{one:Nat}{o:Po4}{m:Nat}(h:Hall W H ps one o m)(oth:Nat)(q:Po4):((rowsL o q W H ps oth m).map (·.c)).Pairwise ltC:=(cells_lt m h.m4).sublist (rows_sub o q W H _ _ (cellsL m))
end Law
set_option maxRecDepth 100000
set_option maxHeartbeats 4000000
set_option linter.all false
namespace Law
open PySem L2 DL
theorem VV_iff {o:Po4}{W H:Nat}{ps:List Po4}{cs:List Pr}{v:Vc}:VV o W H ps cs v↔∃c∈cs,∃t∈things W H ps,v=vI o t.p W H c:=by
 constructor
 ·rintro⟨c,hc,⟨k,p,ep,rfl⟩|⟨r,hr,rfl⟩⟩
  ·exact⟨c,hc,_,person_mem ep,rfl⟩
  ·exact⟨c,hc,rT r,List.mem_append_left _ (List.mem_map.mpr ⟨r,hr,rfl⟩),rfl⟩
 ·rintro⟨c,hc,t,ht,rfl⟩
  exact VV_th hc ht
structure Sy (o q:Po4) (W H:Nat) (ps:List Po4) (o' q':Po4) (W' H':Nat) (ps':List Po4) (m:Nat) (τ:Pr->Pr) (T:Vc->Vc):Prop where
 cell:∀c,τ c∈cellsL m↔c∈cellsL m
 back:∀c,τ (τ c)=c\/∃d,τ d=c
 th:∀t∈things W H ps,∃t'∈things W' H' ps',t'.wd=t.wd/\t'.wh=t.wh/\∀c,vI o' t'.p W' H' (τ c)=T (vI o t.p W H c)
 th':∀t'∈things W' H' ps',∃t∈things W H ps,t'.wd=t.wd/\t'.wh=t.wh/\∀c,vI o' t'.p W' H' (τ c)=T (vI o t.p W H c)
 tg:∀c,vI o' q' W' H' (τ c)=T (vI o q W H c)
 nz:∀v,(T v).nz↔v.nz
 lt:∀u v,ltV (T u) (T v)↔ltV u v
 way:∀u v,u.nz->v.nz->(wV (T u)=wV (T v)↔wV u=wV v)
section
variable {o q:Po4} {W H:Nat} {ps:List Po4} {o' q':Po4} {W' H':Nat} {ps':List Po4} {m:Nat} {τ:Pr->Pr} {T:Vc->Vc}
theorem Sy.pre (y:Sy o q W H ps o' q' W' H' ps' m τ T){c:Pr}(hc:c∈cellsL m):∃d∈cellsL m,τ d=c:=by
 rcases y.back c with e|⟨d,e⟩
 ·exact⟨τ c,(y.cell c).mpr hc,e⟩
 ·exact⟨d,(y.cell d).mp (by rw[e];exact hc),e⟩
theorem Sy.mn (y:Sy o q W H ps o' q' W' H' ps' m τ T){v:Vc}(hv:v.nz):Mn o' W' H' ps' m (T v)↔Mn o W H ps m v:=by
 constructor
 ·intro mn u hu hz hw hl
  obtain⟨c,hc,t,ht,rfl⟩:=VV_iff.mp hu
  obtain⟨t',ht',_,_,e⟩:=y.th t ht
  refine mn (T (vI o t.p W H c)) (VV_iff.mpr ⟨τ c,(y.cell c).mpr hc,t',ht',(e c).symm⟩) ((y.nz _).mpr hz) ((y.way _ _ hz hv).mpr hw) ((y.lt _ _).mpr hl)
 ·intro mn u hu hz hw hl
  obtain⟨c',hc',t',ht',rfl⟩:=VV_iff.mp hu
  obtain⟨t,ht,_,_,e⟩:=y.th' t' ht'
  obtain⟨c,hc,rfl⟩:=y.pre hc'
  rw[e c] at hz hw hl
  have hz':=(y.nz _).mp hz
  exact mn _ (VV_iff.mpr ⟨c,hc,t,ht,rfl⟩) hz' ((y.way _ _ hz' hv).mp hw) ((y.lt _ _).mp hl)
theorem Sy.nst (y:Sy o q W H ps o' q' W' H' ps' m τ T){v:Vc}(hv:v.nz)(wd wh:D):Nst o' W' H' ps' m (T v) wd wh↔Nst o W H ps m v wd wh:=by
 constructor
 ·rintro⟨c',hc',t',ht',hz,hw,mn,rfl,rfl⟩
  obtain⟨t,ht,e1,e2,e⟩:=y.th' t' ht'
  obtain⟨c,hc,rfl⟩:=y.pre hc'
  rw[e c] at hz hw mn
  have hz':=(y.nz _).mp hz
  exact⟨c,hc,t,ht,hz',(y.way _ _ hz' hv).mp hw,(y.mn hz').mp mn,e1,e2⟩
 ·rintro⟨c,hc,t,ht,hz,hw,mn,rfl,rfl⟩
  obtain⟨t',ht',e1,e2,e⟩:=y.th t ht
  refine⟨τ c,(y.cell c).mpr hc,t',ht',?_,?_,?_,e1.symm,e2.symm⟩
  ·rw[e c];exact(y.nz _).mpr hz
  ·rw[e c];exact(y.way _ _ hz hv).mpr hw
  ·rw[e c];exact(y.mn hz).mpr mn
theorem Sy.row (y:Sy o q W H ps o' q' W' H' ps' m τ T){oth:Nat}(c:Pr)(wd wh:D):RowIs o' q' W' H' ps' oth m ⟨τ c,wd,wh⟩↔RowIs o q W H ps oth m ⟨c,wd,wh⟩:=by
 unfold RowIs
 dsimp only
 rw[y.tg c,y.cell c,y.nz]
 refine and_congr_right fun _=>and_congr_right fun hz=>?_
 rw[y.mn hz,y.nst hz]
end
def swC (c:Pr):Pr:=(c.2,c.1)
def swP (p:Po4):Po4:=⟨p.c,p.d,p.a,p.b⟩
def swV (v:Vc):Vc:=⟨v.Q,v.P,v.N⟩
theorem gI_comm (P Q:Int):gI Q P=gI P Q:=by unfold gI;rw[Int.gcd_comm]
theorem sw_way (v:Vc):wV (swV v)=swC (wV v):=by
 unfold wV swV swC wy
 dsimp only
 rw[gI_comm]
theorem sw_vI (o p:Po4)(W H:Nat)(c:Pr):vI (swP o) (swP p) H W (swC c)=swV (vI o p W H c):=by
 unfold vI vec swV swP swC img
 dsimp only
 rw[Int.mul_comm (p.d*o.d) (p.b*o.b)]
theorem cells_sw:∀m:Nat,m<=4->∀c∈cellsL m,swC c∈cellsL m/\(-c.1,c.2)∈cellsL m
 |0,_=>by decide
 |1,_=>by decide
 |2,_=>by decide
 |3,_=>by decide +kernel
 |4,_=>by decide +kernel
 |m+5,h=>by lia
theorem enum_ix {ps:List Po4}{j:Nat}{p:Po4}{f:Po4->Po4}(h:ps[j]?=some p):(ps.map f)[j]?=some (f p):=by rw[List.getElem?_map,h];rfl
theorem map_ix {ps:List Po4}{j:Nat}{p:Po4}{f:Po4->Po4}(h:(ps.map f)[j]?=some p):∃p0,ps[j]?=some p0/\p=f p0:=by
 rw[List.getElem?_map] at h
 cases e:ps[j]? with
 |none=>rw[e] at h;cases h
 |some p0=>rw[e] at h;cases h;exact⟨p0,rfl,rfl⟩
theorem sw_sy {o q:Po4}{W H:Nat}{ps:List Po4}{m:Nat}(hm:m<=4):Sy o q W H ps (swP o) (swP q) H W (ps.map swP) m swC swV where
 cell:=fun c=>⟨fun h=>(cells_sw m hm _ h).1,fun h=>(cells_sw m hm _ h).1⟩
 back:=fun c=>.inl rfl
 th:=fun t ht=>by
  rcases th_form ht with⟨r,hr,rfl⟩|⟨k,p,ep,rfl⟩
  ·refine⟨rT (swC r),List.mem_append_left _ (List.mem_map.mpr ⟨swC r,?_,rfl⟩),rfl,rfl,fun c=>sw_vI o (rP r) W H c⟩
   rw[rim_mem] at hr ⊢
   unfold swC
   dsimp only
   lia
  ·exact⟨_,person_mem (enum_ix ep),rfl,rfl,fun c=>sw_vI o p W H c⟩
 th':=fun t ht=>by
  rcases th_form ht with⟨r,hr,rfl⟩|⟨k,p,ep,rfl⟩
  ·refine⟨rT (swC r),List.mem_append_left _ (List.mem_map.mpr ⟨swC r,?_,rfl⟩),rfl,rfl,fun c=>sw_vI o (rP (swC r)) W H c⟩
   rw[rim_mem] at hr ⊢
   unfold swC
   dsimp only
   lia
  ·obtain⟨p0,e0,rfl⟩:=map_ix ep
   exact⟨_,person_mem e0,rfl,rfl,fun c=>sw_vI o p0 W H c⟩
 tg:=fun c=>sw_vI o q W H c
 nz:=fun v=>by unfold Vc.nz swV;dsimp only;exact or_comm
 lt:=fun u v=>by unfold ltV gV swV;dsimp only;rw[gI_comm,gI_comm v.P]
 way:=fun u v _ _=>by
  rw[sw_way,sw_way]
  unfold swC
  constructor
  ·intro h
   injection h with h1 h2
   exact Prod.ext h2 h1
  ·intro h;rw[h]
def rfC (c:Pr):Pr:=(-c.1,c.2)
def rfP (W:Nat)(p:Po4):Po4:=⟨(W:Int)*p.b - p.a,p.b,p.c,p.d⟩
def rfV (v:Vc):Vc:=⟨-v.P,v.Q,v.N⟩
theorem gI_neg (P Q:Int):gI (-P) Q=gI P Q:=by unfold gI;rw[Int.neg_gcd]
theorem rf_way (v:Vc):wV (rfV v)=(-(wV v).1,(wV v).2):=by
 unfold wV rfV wy
 dsimp only
 rw[gI_neg]
 congr 1
 have hd:gI v.P v.Q ∣ v.P:=Int.gcd_dvd_left v.P v.Q
 exact Int.neg_ediv_of_dvd hd
theorem rf_im (W:Nat)(a b i:Int):imX W ((W:Int)*b - a) b (-i)=(W:Int)*b - imX W a b i:=by
 unfold imX
 have e:(-i) % 2=1↔i % 2=1:=by lia
 by_cases h:i % 2=1
 ·rw[if_pos h,if_pos (e.mpr h),Int.neg_mul,Int.neg_mul]
  generalize i*(W:Int)*b=k
  generalize (W:Int)*b=l
  lia
 ·rw[if_neg h,if_neg fun z=>h (e.mp z),Int.neg_mul,Int.neg_mul]
  generalize i*(W:Int)*b=k
  generalize (W:Int)*b=l
  lia
theorem rf_vI (o p:Po4)(W H:Nat)(c:Pr):vI (rfP W o) (rfP W p) W H (rfC c)=rfV (vI o p W H c):=by
 unfold vI vec rfV rfP rfC img
 dsimp only
 rw[rf_im]
 congr 1
 rw[<-Int.neg_mul]
 congr 1
 rw[Int.sub_mul,Int.sub_mul,Int.mul_right_comm (W:Int) p.b o.b]
 lia
theorem rf_rim {W H:Nat}{r:Pr}(h:r∈rimL W H):((W:Int) - r.1,r.2)∈rimL W H:=by
 rw[rim_mem] at h ⊢
 dsimp only
 lia
theorem rf_rP (W:Nat)(r:Pr):rP ((W:Int) - r.1,r.2)=rfP W (rP r):=by
 unfold rP rfP
 dsimp only
 rw[Int.mul_one]
theorem rf_sy {o q:Po4}{W H:Nat}{ps:List Po4}{m:Nat}(hm:m<=4):Sy o q W H ps (rfP W o) (rfP W q) W H (ps.map (rfP W)) m rfC rfV where
 cell:=fun c=>⟨fun h=>by
  have:=(cells_sw m hm _ h).2
  unfold rfC at this
  dsimp only at this
  rw[Int.neg_neg] at this
  exact this,fun h=>(cells_sw m hm _ h).2⟩
 back:=fun c=>.inl (by unfold rfC;dsimp only;rw[Int.neg_neg])
 th:=fun t ht=>by
  rcases th_form ht with⟨r,hr,rfl⟩|⟨k,p,ep,rfl⟩
  ·refine⟨rT ((W:Int) - r.1,r.2),List.mem_append_left _ (List.mem_map.mpr ⟨_,rf_rim hr,rfl⟩),rfl,rfl,fun c=>?_⟩
   show vI (rfP W o) (rP ((W:Int) - r.1,r.2)) W H (rfC c)=_
   rw[rf_rP]
   exact rf_vI o (rP r) W H c
  ·exact⟨_,person_mem (enum_ix ep),rfl,rfl,fun c=>rf_vI o p W H c⟩
 th':=fun t ht=>by
  rcases th_form ht with⟨r,hr,rfl⟩|⟨k,p,ep,rfl⟩
  ·refine⟨rT ((W:Int) - r.1,r.2),List.mem_append_left _ (List.mem_map.mpr ⟨_,rf_rim hr,rfl⟩),rfl,rfl,fun c=>?_⟩
   show vI (rfP W o) (rP r) W H (rfC c)=rfV (vI o (rP ((W:Int) - r.1,r.2)) W H c)
   rw[<-rf_vI,<-rf_rP]
   have:((W:Int) - ((W:Int) - r.1,r.2).1,((W:Int) - r.1,r.2).2)=r:=Prod.ext (by dsimp only;lia) rfl
   rw[this]
  ·obtain⟨p0,e0,rfl⟩:=map_ix ep
   exact⟨_,person_mem e0,rfl,rfl,fun c=>rf_vI o p0 W H c⟩
 tg:=fun c=>rf_vI o q W H c
 nz:=fun v=>by unfold Vc.nz rfV;dsimp only;lia
 lt:=fun u v=>by unfold ltV gV rfV;dsimp only;rw[gI_neg,gI_neg]
 way:=fun u v _ _=>by
  rw[rf_way,rf_way]
  constructor
  ·intro h
   injection h with h1 h2
   exact Prod.ext (by lia) h2
  ·intro h;rw[h]
end Law
set_option maxRecDepth 100000
set_option maxHeartbeats 4000000
set_option linter.all false
namespace Law
open PySem L2 DL
def B1 (oa ob xa xb ya yb k n:Int):Prop:=(ya*ob - oa*yb)*xb*n=k*((xa*ob - oa*xb)*yb)
def Bt (o X Y:Po4):Prop:=∃k n:Int,0<k/\k<n/\B1 o.a o.b X.a X.b Y.a Y.b k n/\B1 o.c o.d X.c X.d Y.c Y.d k n
theorem B1.sym {oa ob xa xb ya yb k n:Int}(h:B1 oa ob xa xb ya yb k n):B1 xa xb oa ob ya yb (n - k) n:=by
 unfold B1 at *
 grind
theorem Bt.sym {o X Y:Po4}(h:Bt o X Y):Bt X o Y:=by
 obtain⟨k,n,h1,h2,h3,h4⟩:=h
 exact⟨n - k,n,by lia,by lia,h3.sym,h4.sym⟩
structure Pp (p:Po4):Prop where
 b:0<p.b
 d:0<p.d
theorem vnz {o X:Po4}(ho:Pp o)(hX:Pp X):(vec o X).nz↔X.a*o.b - o.a*X.b≠0\/X.c*o.d - o.c*X.d≠0:=vec_nz ho.b ho.d hX.b hX.d
theorem vN {o X:Po4}(ho:Pp o)(hX:Pp X):0<(vec o X).N:=vec_pos ho.b ho.d hX.b hX.d
theorem gV_pos {v:Vc}(h:v.nz):0<gV v:=(wy_spec (P:=v.P) (Q:=v.Q) h).1
theorem bt_of {o X Y:Po4}(ho:Pp o)(hX:Pp X)(hY:Pp Y)(z:(vec o X).nz)(z':(vec o Y).nz)(hw:wV (vec o Y)=wV (vec o X))(hl:ltV (vec o Y) (vec o X)):Bt o X Y:=by
 obtain⟨g0,e1,e2,_⟩:=wy_spec (P:=(vec o X).P) (Q:=(vec o X).Q) z
 obtain⟨g0',e1',e2',_⟩:=wy_spec (P:=(vec o Y).P) (Q:=(vec o Y).Q) z'
 unfold wV at hw
 rw[hw] at e1' e2'
 unfold ltV gV at hl
 have N:=vN ho hX
 have N':=vN ho hY
 refine⟨gI (vec o Y).P (vec o Y).Q*(vec o X).N,gI (vec o X).P (vec o X).Q*(vec o Y).N,Int.mul_pos g0' N,hl,?_,?_⟩
 ·generalize gI (vec o X).P (vec o X).Q=g at *
  generalize gI (vec o Y).P (vec o Y).Q=g' at *
  generalize (wy (vec o X).P (vec o X).Q).1=w at *
  have f:(vec o Y).P*g=(vec o X).P*g':=by rw[e1,e1',Int.mul_right_comm,Int.mul_comm g' g,Int.mul_right_comm]
  clear e1 e2 e1' e2' hw hl
  unfold vec at f ⊢
  unfold B1
  dsimp only at f ⊢
  generalize Y.a*o.b - o.a*Y.b=A at *
  generalize X.a*o.b - o.a*X.b=B at *
  grind
 ·generalize gI (vec o X).P (vec o X).Q=g at *
  generalize gI (vec o Y).P (vec o Y).Q=g' at *
  generalize (wy (vec o X).P (vec o X).Q).2=w at *
  have f:(vec o Y).Q*g=(vec o X).Q*g':=by rw[e2,e2',Int.mul_right_comm,Int.mul_comm g' g,Int.mul_right_comm]
  clear e1 e2 e1' e2' hw hl
  unfold vec at f ⊢
  unfold B1
  dsimp only at f ⊢
  generalize Y.c*o.d - o.c*Y.d=A at *
  generalize X.c*o.d - o.c*X.d=B at *
  grind
theorem wy_scale {k P Q:Int}(hk:0<k)(h:P≠0\/Q≠0):wy (k*P) (k*Q)=wy P Q/\gI (k*P) (k*Q)=k*gI P Q:=by
 obtain⟨h1,h2,h3⟩:=way_congr (P:=k*P) (Q:=k*Q) (N:=k) (P':=P) (Q':=Q) (N':=1) hk (by decide) (by
  rcases h with h|h
  ·exact .inl (Int.mul_ne_zero (by lia) h)
  ·exact .inr (Int.mul_ne_zero (by lia) h)) (by rw[Int.mul_one,Int.mul_comm]) (by rw[Int.mul_one,Int.mul_comm])
 refine⟨h2,?_⟩
 rw[Int.mul_one] at h3
 rw[h3,Int.mul_comm]
theorem of_bt {o X Y:Po4}(ho:Pp o)(hX:Pp X)(hY:Pp Y)(z:(vec o X).nz)(h:Bt o X Y):(vec o Y).nz/\wV (vec o Y)=wV (vec o X)/\ltV (vec o Y) (vec o X):=by
 obtain⟨k,n,hk,hn,b1,b2⟩:=h
 have N:=vN ho hX
 have N':=vN ho hY
 have q1:(vec o Y).P*(n*(vec o X).N)=(k*(vec o X).P)*(vec o Y).N:=by
  unfold B1 at b1
  unfold vec
  dsimp only
  generalize Y.a*o.b - o.a*Y.b=A at *
  generalize X.a*o.b - o.a*X.b=B at *
  grind
 have q2:(vec o Y).Q*(n*(vec o X).N)=(k*(vec o X).Q)*(vec o Y).N:=by
  unfold B1 at b2
  unfold vec
  dsimp only
  generalize Y.c*o.d - o.c*Y.d=A at *
  generalize X.c*o.d - o.c*X.d=B at *
  grind
 have hnN:0<n*(vec o X).N:=Int.mul_pos (by lia) N
 have zk:k*(vec o X).P≠0\/k*(vec o X).Q≠0:=by
  rcases z with z|z
  ·exact .inl (Int.mul_ne_zero (by lia) z)
  ·exact .inr (Int.mul_ne_zero (by lia) z)
 obtain⟨z',hw,hg⟩:=way_congr (P:=k*(vec o X).P) (Q:=k*(vec o X).Q) (N:=n*(vec o X).N) (P':=(vec o Y).P) (Q':=(vec o Y).Q) (N':=(vec o Y).N) hnN N' zk q1.symm q2.symm
 obtain⟨s1,s2⟩:=wy_scale hk z
 rw[s1] at hw
 rw[s2] at hg
 refine⟨z',hw.symm,?_⟩
 unfold ltV gV
 have gp:0<gI (vec o X).P (vec o X).Q:=gV_pos z
 generalize gI (vec o X).P (vec o X).Q=g at *
 generalize gI (vec o Y).P (vec o Y).Q=g' at *
 generalize (vec o X).N=N0 at *
 generalize (vec o Y).N=N1 at *
 have h1:k*(g*N1)<n*(g*N1):=Int.mul_lt_mul_of_pos_right hn (Int.mul_pos gp N')
 have h2:k*(g*N1)=g'*N0*n:=by rw[<-Int.mul_assoc,hg,Int.mul_comm n N0,Int.mul_assoc]
 rw[h2,Int.mul_comm n] at h1
 exact Int.lt_of_mul_lt_mul_right h1 (by lia)
theorem coord {oa ob xa xb ya yb i k n z:Int}(hob:0<ob)(hxb:0<xb)(hyb:0<yb)(hz:0<z)(o0:0<oa)(o1:oa<z*ob)(x0:i*z*xb<xa)(x1:xa<(i+1)*z*xb)(hk:0<k)(hn:k<n)(e:B1 oa ob xa xb ya yb k n) :
  (0<=i->0<ya/\ya<(i+1)*z*yb)/\(i<=0->i*z*yb<ya/\ya<z*yb):=by
 have E:ya*n*(ob*xb)=oa*(n - k)*(xb*yb)+k*xa*(ob*yb):=by unfold B1 at e;grind
 have p1:0<ob*xb:=Int.mul_pos hob hxb
 have p2:0<xb*yb:=Int.mul_pos hxb hyb
 have p3:0<ob*yb:=Int.mul_pos hob hyb
 have n0:0<n:=by lia
 have lo:k*i*(z*yb)<ya*n:=by
  have a1:i*z*xb*(k*(ob*yb))<xa*(k*(ob*yb)):=Int.mul_lt_mul_of_pos_right x0 (Int.mul_pos hk p3)
  have a2:0<oa*(n - k)*(xb*yb):=Int.mul_pos (Int.mul_pos o0 (by lia)) p2
  have a3:k*i*(z*yb)*(ob*xb)=i*z*xb*(k*(ob*yb)):=by grind
  have a4:xa*(k*(ob*yb))=k*xa*(ob*yb):=by grind
  refine Int.lt_of_mul_lt_mul_right (a:=ob*xb) ?_ (Int.le_of_lt p1)
  rw[E,a3]
  lia
 have hi:ya*n<(n+k*i)*(z*yb):=by
  have a1:xa*(k*(ob*yb))<(i+1)*z*xb*(k*(ob*yb)):=Int.mul_lt_mul_of_pos_right x1 (Int.mul_pos hk p3)
  have a2:oa*((n - k)*(xb*yb))<z*ob*((n - k)*(xb*yb)):=Int.mul_lt_mul_of_pos_right o1 (Int.mul_pos (by lia) p2)
  have a3:(n+k*i)*(z*yb)*(ob*xb)=z*ob*((n - k)*(xb*yb))+(i+1)*z*xb*(k*(ob*yb)):=by grind
  have a4:xa*(k*(ob*yb))=k*xa*(ob*yb):=by grind
  have a5:oa*((n - k)*(xb*yb))=oa*(n - k)*(xb*yb):=by grind
  refine Int.lt_of_mul_lt_mul_right (a:=ob*xb) ?_ (Int.le_of_lt p1)
  rw[E,a3]
  lia
 have zy:0<z*yb:=Int.mul_pos hz hyb
 constructor
 ·intro h
  have b1:0<=k*i*(z*yb):=Int.mul_nonneg (Int.mul_nonneg (by lia) h) (by lia)
  have b2:k*i<=n*i:=Int.mul_le_mul_of_nonneg_right (by lia) h
  have b3:(n+k*i)*(z*yb)<=(n+n*i)*(z*yb):=Int.mul_le_mul_of_nonneg_right (by lia) (by lia)
  refine⟨Int.pos_of_mul_pos_left (by lia) n0,Int.lt_of_mul_lt_mul_right (a:=n) ?_ (by lia)⟩
  have b4:(n+n*i)*(z*yb)=(i+1)*z*yb*n:=by grind
  lia
 ·intro h
  have b2:n*i<=k*i:=by
   have:=Int.mul_le_mul_of_nonneg_right (show k<=n by lia) (show 0 <= -i by lia)
   rw[Int.mul_neg,Int.mul_neg] at this
   lia
  have b3:n*i*(z*yb)<=k*i*(z*yb):=Int.mul_le_mul_of_nonneg_right b2 (by lia)
  have b5:k*i<=0:=Int.mul_nonpos_of_nonneg_of_nonpos (by lia) h
  have b6:(n+k*i)*(z*yb)<=n*(z*yb):=Int.mul_le_mul_of_nonneg_right (by lia) (by lia)
  refine⟨Int.lt_of_mul_lt_mul_right (a:=n) ?_ (by lia),Int.lt_of_mul_lt_mul_right (a:=n) ?_ (by lia)⟩
  ·have b4:n*i*(z*yb)=i*z*yb*n:=by grind
   lia
  ·have b4:n*(z*yb)=z*yb*n:=Int.mul_comm _ _
   lia
theorem mid_cell {i j z y yb:Int}(hz:0<z)(hyb:0<yb)(h:(0<=i->0<y/\y<(i+1)*z*yb)/\(i<=0->i*z*yb<y/\y<z*yb))(l:j*z*yb<=y)(r:y<(j+1)*z*yb):j.natAbs<=i.natAbs:=by
 have zy:0<z*yb:=Int.mul_pos hz hyb
 rw[Int.mul_assoc] at l r
 have lt:∀{a b:Int},a*(z*yb)<b*(z*yb)->a<b:=fun h=>Int.lt_of_mul_lt_mul_right h (Int.le_of_lt zy)
 rcases Int.le_total 0 i with hi|hi
 ·obtain⟨a1,a2⟩:=h.1 hi
  rw[Int.mul_assoc] at a2
  have c1:j<i+1:=lt (by lia)
  have c2:0<j+1:=lt (by rw[Int.zero_mul];lia)
  lia
 ·obtain⟨a1,a2⟩:=h.2 hi
  rw[Int.mul_assoc] at a1
  have c1:i<j+1:=lt (by lia)
  have c2:j<1:=lt (by rw[Int.one_mul];lia)
  lia
end Law
set_option maxRecDepth 100000
set_option maxHeartbeats 4000000
set_option linter.all false
namespace Law
open PySem L2 DL
theorem cells_mem {m:Nat}{c:Pr}:c∈cellsL m↔c.1.natAbs+c.2.natAbs<=m:=by
 unfold cellsL
 rw[List.mem_flatMap]
 constructor
 ·rintro⟨x,hx,h⟩
  obtain⟨y,hy,rfl⟩:=List.mem_map.mp h
  have a1:=List.mem_range.mp hx
  have a2:=List.mem_range.mp hy
  dsimp only
  lia
 ·intro h
  refine⟨(c.1+m).toNat,List.mem_range.mpr (by lia),List.mem_map.mpr ⟨(c.2+((m - c.1.natAbs:Nat):Int)).toNat,List.mem_range.mpr ?_,?_⟩⟩
  ·have e:(((c.1+m).toNat:Nat):Int) - (m:Int)=c.1:=by lia
   rw[e]
   lia
  ·have e:(((c.1+m).toNat:Nat):Int) - (m:Int)=c.1:=by lia
   rw[e]
   exact Prod.ext rfl (by dsimp only;lia)
def TY (W H:Nat)(ps:List Po4)(Y:Po4):Prop:=(∃(k:Nat) (p:Po4) (c:Pr),ps[k]?=some p/\Y=img W H p c.1 c.2)\/∃x y:Int,(x % (W:Int)=0\/y % (H:Int)=0)/\Y=rP (x,y)
theorem im_bd {z:Nat}{a b i:Int}(h0:0<a)(h1:a<(z:Int)*b):i*(z:Int)*b<imX z a b i/\imX z a b i<(i+1)*(z:Int)*b:=by
 obtain⟨f0,f1⟩:=fold_bd (i:=i) h0 h1
 unfold imX
 have e:(i+1)*(z:Int)*b=i*(z:Int)*b+(z:Int)*b:=by rw[Int.add_mul,Int.add_mul,Int.one_mul]
 rw[e]
 lia
theorem ins_pp {W H:Nat}{p:Po4}(h:Ins W H p):Pp p:=⟨h.b,h.d⟩
theorem img_pp {W H:Nat}{p:Po4}(h:Ins W H p)(i j:Int):Pp (img W H p i j):=⟨h.b,h.d⟩
theorem rP_pp (c:Pr):Pp (rP c):=⟨by show(0:Int)<1;decide,by show(0:Int)<1;decide⟩
theorem ty_pp {W H:Nat}{ps:List Po4}(pe:Peo W H ps){Y:Po4}(h:TY W H ps Y):Pp Y:=by
 rcases h with⟨k,p,c,e,rfl⟩|⟨x,y,_,rfl⟩
 ·exact img_pp (pe.ins p (List.mem_of_getElem? e)) _ _
 ·exact rP_pp _
theorem ty_vv {W H:Nat}{ps:List Po4}{one:Nat}{o:Po4}{m:Nat}(h:Hall W H ps one o m)(pe:Peo W H ps){q:Po4}(iq:Ins W H q){c:Pr}(hc:c∈cellsL m){Y:Po4}(hY:TY W H ps Y)(b:Bt o (img W H q c.1 c.2) Y):VV o W H ps (cellsL m) (vec o Y):=by
 have io:=pe.ins o (List.mem_of_getElem? h.me)
 have hW:(0:Int)<W:=by have:=h.w0;lia
 have hH:(0:Int)<H:=by have:=h.h0;lia
 have py:=ty_pp pe hY
 obtain⟨k,n,hk,hn,b1,b2⟩:=b
 obtain⟨x0,x1⟩:=im_bd (i:=c.1) iq.a0 iq.a1
 obtain⟨y0,y1⟩:=im_bd (i:=c.2) iq.c0 iq.c1
 have cx:=coord (z:=(W:Int)) (i:=c.1) io.b iq.b py.b hW io.a0 io.a1 x0 x1 hk hn b1
 have cy:=coord (z:=(H:Int)) (i:=c.2) io.d iq.d py.d hH io.c0 io.c1 y0 y1 hk hn b2
 rw[cells_mem] at hc
 rcases hY with⟨j,p,d,e,rfl⟩|⟨x,y,e,rfl⟩
 ·have ip:=pe.ins p (List.mem_of_getElem? e)
  obtain⟨u0,u1⟩:=im_bd (i:=d.1) ip.a0 ip.a1
  obtain⟨v0,v1⟩:=im_bd (i:=d.2) ip.c0 ip.c1
  have m1:=mid_cell hW ip.b cx (Int.le_of_lt u0) u1
  have m2:=mid_cell hH ip.d cy (Int.le_of_lt v0) v1
  exact⟨d,cells_mem.mpr (by lia),.inl ⟨j,p,e,rfl⟩⟩
 ·have dx:=Int.mul_ediv_add_emod x (W:Int)
  have dy:=Int.mul_ediv_add_emod y (H:Int)
  have rx0:=Int.emod_nonneg x (show(W:Int)≠0 by lia)
  have rx1:=Int.emod_lt_of_pos x hW
  have ry0:=Int.emod_nonneg y (show(H:Int)≠0 by lia)
  have ry1:=Int.emod_lt_of_pos y hH
  rw[Int.mul_comm] at dx dy
  have m1:=mid_cell (j:=x / W) hW (show(0:Int)<1 by decide) cx (show x / (W:Int)*W*1<=x by lia) (show x<(x / (W:Int)+1)*W*1 by rw[Int.add_mul];lia)
  have m2:=mid_cell (j:=y / H) hH (show(0:Int)<1 by decide) cy (show y / (H:Int)*H*1<=y by lia) (show y<(y / (H:Int)+1)*H*1 by rw[Int.add_mul];lia)
  obtain⟨r,hr,e1,e2⟩:=rim_unfold h.w0 h.h0 (c:=(x / (W:Int),y / (H:Int))) (x:=x) (y:=y) (span_mem.mpr ⟨by dsimp only;lia,by dsimp only;lia⟩) (span_mem.mpr ⟨by dsimp only;lia,by dsimp only;lia⟩) e
  refine⟨(x / (W:Int),y / (H:Int)),cells_mem.mpr (by dsimp only;lia),.inr ⟨r,hr,?_⟩⟩
  exact congrArg (vec o) (show rP (x,y)=rP (imX W r.1 1 (x / (W:Int),y / (H:Int)).1,imX H r.2 1 (x / (W:Int),y / (H:Int)).2) by rw[e1,e2])
theorem vv_ty {W H:Nat}{ps:List Po4}{o:Po4}(w0:1<=W)(h0:1<=H){cs:List Pr}{v:Vc}(h:VV o W H ps cs v):∃Y,TY W H ps Y/\v=vec o Y:=by
 obtain⟨c,_,⟨k,p,e,rfl⟩|⟨r,hr,rfl⟩⟩:=h
 ·exact⟨_,.inl ⟨k,p,c,e,rfl⟩,rfl⟩
 ·obtain⟨_,_,e⟩:=rim_fold w0 h0 (c:=c) hr
  exact⟨_,.inr ⟨_,_,e,rfl⟩,rfl⟩
theorem mn_iff {W H:Nat}{ps:List Po4}{one:Nat}{o:Po4}{m:Nat}(h:Hall W H ps one o m)(pe:Peo W H ps){q:Po4}(iq:Ins W H q){c:Pr}(hc:c∈cellsL m)(hz:(vI o q W H c).nz):Mn o W H ps m (vI o q W H c)↔¬∃Y,TY W H ps Y/\Bt o (img W H q c.1 c.2) Y:=by
 have io:=ins_pp (pe.ins o (List.mem_of_getElem? h.me))
 have ix:=img_pp iq c.1 c.2
 constructor
 ·rintro mn ⟨Y,hY,b⟩
  obtain⟨z',hw,hl⟩:=of_bt io ix (ty_pp pe hY) hz b
  exact mn _ (ty_vv h pe iq hc hY b) z' hw hl
 ·intro no v' hv' hz' hw hl
  obtain⟨Y,hY,rfl⟩:=vv_ty h.w0 h.h0 hv'
  exact no ⟨Y,hY,bt_of io ix (ty_pp pe hY) hz hz' hw hl⟩
def bk (i:Int):Int:=if i % 2=1 then i else -i
def phX (z i a b:Int):Int:=if i % 2=1 then(i+1)*z*b - a else a - i*z*b
def ph (W H:Int)(c:Pr)(Y:Po4):Po4:=⟨phX W c.1 Y.a Y.b,Y.b,phX H c.2 Y.c Y.d,Y.d⟩
theorem phX_img (z a b i:Int):phX z i (imX z a b i) b=a:=by
 unfold phX imX
 split
 ·rw[Int.add_mul,Int.add_mul,Int.one_mul];lia
 ·lia
theorem phX_back (z a b i:Int):phX z i a b=imX z a b (bk i):=by
 unfold phX imX bk
 by_cases h:i % 2=1
 ·simp only[if_pos h]
  rw[Int.add_mul,Int.add_mul,Int.one_mul];lia
 ·have h':¬(-i) % 2=1:=by lia
  simp only[if_neg h,if_neg h']
  rw[Int.neg_mul,Int.neg_mul];lia
theorem ph_B1 {z i oa ob xa xb ya yb k n:Int}(h:B1 oa ob xa xb ya yb k n):B1 (phX z i oa ob) ob (phX z i xa xb) xb (phX z i ya yb) yb k n:=by
 unfold B1 phX at *
 split
 ·have e1:((i+1)*z*yb - ya)*ob - ((i+1)*z*ob - oa)*yb = -(ya*ob - oa*yb):=by grind
  have e2:((i+1)*z*xb - xa)*ob - ((i+1)*z*ob - oa)*xb = -(xa*ob - oa*xb):=by grind
  rw[e1,e2]
  generalize ya*ob - oa*yb=A at *
  generalize xa*ob - oa*xb=B at *
  grind
 ·have e1:(ya - i*z*yb)*ob - (oa - i*z*ob)*yb=ya*ob - oa*yb:=by grind
  have e2:(xa - i*z*xb)*ob - (oa - i*z*ob)*xb=xa*ob - oa*xb:=by grind
  rw[e1,e2]
  exact h
theorem ph_Bt {W H:Int}(c:Pr){o X Y:Po4}(h:Bt o X Y):Bt (ph W H c o) (ph W H c X) (ph W H c Y):=by
 obtain⟨k,n,h1,h2,h3,h4⟩:=h
 exact⟨k,n,h1,h2,ph_B1 h3,ph_B1 h4⟩
theorem ph_cell (z a b i j:Int):phX z i (imX z a b j) b=imX z a b (if i % 2=1 then i - j else j - i):=by
 unfold phX imX
 by_cases h:i % 2=1
 ·simp only[if_pos h]
  by_cases h2:j % 2=1
  ·have h3:¬(i - j) % 2=1:=by lia
   rw[if_pos h2,if_neg h3,Int.add_mul,Int.add_mul,Int.sub_mul,Int.sub_mul,Int.one_mul];lia
  ·have h3:(i - j) % 2=1:=by lia
   rw[if_neg h2,if_pos h3,Int.add_mul,Int.add_mul,Int.sub_mul,Int.sub_mul,Int.one_mul];lia
 ·simp only[if_neg h]
  by_cases h2:j % 2=1
  ·have h3:(j - i) % 2=1:=by lia
   rw[if_pos h2,if_pos h3,Int.sub_mul,Int.sub_mul];lia
  ·have h3:¬(j - i) % 2=1:=by lia
   rw[if_neg h2,if_neg h3,Int.sub_mul,Int.sub_mul];lia
theorem ph_mod {z x i:Int}(h:x % z=0):phX z i x 1 % z=0:=by
 have d:z ∣ x:=Int.dvd_of_emod_eq_zero h
 have e:∀k:Int,z ∣ k*z*1:=fun k=>by rw[Int.mul_one];exact Int.dvd_mul_left k z
 unfold phX
 split
 ·exact Int.emod_eq_zero_of_dvd (Int.dvd_sub (e _) d)
 ·exact Int.emod_eq_zero_of_dvd (Int.dvd_sub d (e _))
theorem ph_TY {W H:Nat}{ps:List Po4}(c:Pr){Y:Po4}(h:TY W H ps Y):TY W H ps (ph W H c Y):=by
 rcases h with⟨k,p,d,e,rfl⟩|⟨x,y,e,rfl⟩
 ·refine .inl ⟨k,p,(if c.1 % 2=1 then c.1 - d.1 else d.1 - c.1,if c.2 % 2=1 then c.2 - d.2 else d.2 - c.2),e,?_⟩
  unfold ph img
  dsimp only
  rw[ph_cell,ph_cell]
 ·refine .inr ⟨phX W c.1 x 1,phX H c.2 y 1,?_,rfl⟩
  rcases e with e|e
  ·exact .inl (ph_mod e)
  ·exact .inr (ph_mod e)
theorem bk_bk (i:Int):bk (bk i)=i:=by
 unfold bk
 by_cases h:i % 2=1
 ·rw[if_pos h,if_pos h]
 ·have h':¬(-i) % 2=1:=by lia
  rw[if_neg h,if_neg h'];lia
def bkC (c:Pr):Pr:=(bk c.1,bk c.2)
theorem bkC_bkC (c:Pr):bkC (bkC c)=c:=Prod.ext (bk_bk _) (bk_bk _)
theorem bk_abs (i:Int):(bk i).natAbs=i.natAbs:=by unfold bk;split<;>lia
theorem bk_cell {m:Nat}{c:Pr}:bkC c∈cellsL m↔c∈cellsL m:=by
 rw[cells_mem,cells_mem]
 unfold bkC
 dsimp only
 rw[bk_abs,bk_abs]
theorem ph_img (W H:Int)(q:Po4)(c:Pr):ph W H c (img W H q c.1 c.2)=q:=by
 unfold ph img
 dsimp only
 rw[phX_img,phX_img]
theorem ph_o (W H:Int)(o:Po4)(c:Pr):ph W H c o=img W H o (bkC c).1 (bkC c).2:=by
 unfold ph img bkC
 dsimp only
 rw[phX_back,phX_back]
theorem nz_back {W H:Nat}{o q:Po4}(ho:Ins W H o)(hq:Ins W H q)(c:Pr)(h:(vI o q W H c).nz):(vI q o W H (bkC c)).nz:=by
 have h1:=(vnz (ins_pp ho) (img_pp hq c.1 c.2)).mp h
 refine(vnz (ins_pp hq) (img_pp ho (bkC c).1 (bkC c).2)).mpr ?_
 have e:=ph_o W H o c
 have e2:=ph_img W H q c
 rw[<-e]
 have key:∀{z i oa ob xa xb:Int},xa*ob - oa*xb≠0->phX z i oa ob*xb - phX z i xa xb*ob≠0:=fun {z i oa ob xa xb} h=>by
  unfold phX
  split
  ·have:((i+1)*z*ob - oa)*xb - ((i+1)*z*xb - xa)*ob=xa*ob - oa*xb:=by grind
   rw[this];exact h
  ·have:(oa - i*z*ob)*xb - (xa - i*z*xb)*ob = -(xa*ob - oa*xb):=by grind
   rw[this];lia
 have qa:q.a=phX W c.1 (img W H q c.1 c.2).a q.b:=congrArg Po4.a e2.symm
 have qc:q.c=phX H c.2 (img W H q c.1 c.2).c q.d:=congrArg Po4.c e2.symm
 rcases h1 with h1|h1
 ·left
  show phX W c.1 o.a o.b*q.b - q.a*o.b≠0
  rw[qa]
  exact key h1
 ·right
  show phX H c.2 o.c o.d*q.d - q.c*o.d≠0
  rw[qc]
  exact key h1
theorem seen_back {W H:Nat}{ps:List Po4}{one oth:Nat}{o q:Po4}{m:Nat}(h:Hall W H ps one o m)(h':Hall W H ps oth q m)(pe:Peo W H ps){c:Pr}(hc:c∈cellsL m)(hz:(vI o q W H c).nz)(mn:Mn o W H ps m (vI o q W H c)):bkC c∈cellsL m/\(vI q o W H (bkC c)).nz/\Mn q W H ps m (vI q o W H (bkC c)):=by
 have io:=pe.ins o (List.mem_of_getElem? h.me)
 have iq:=pe.ins q (List.mem_of_getElem? h'.me)
 have hb:=bk_cell.mpr hc
 have zb:=nz_back io iq c hz
 refine⟨hb,zb,(mn_iff h' pe io hb zb).mpr ?_⟩
 rintro⟨Y,hY,b⟩
 refine(mn_iff h pe iq hc hz).mp mn ⟨ph W H (bkC c) Y,ph_TY (bkC c) hY,?_⟩
 have b2:=ph_Bt (W:=(W:Int)) (H:=(H:Int)) (bkC c) b.sym
 rw[ph_img,ph_o,bkC_bkC] at b2
 exact b2
end Law
set_option maxRecDepth 100000
set_option maxHeartbeats 4000000
set_option linter.all false
namespace Law
open PySem L2 DL
theorem swP_inj {p q:Po4}(h:swP p=swP q):p=q:=by
 cases p;cases q
 unfold swP at h
 injection h with h1 h2 h3 h4
 subst h1 h2 h3 h4
 rfl
theorem rfP_inj {W:Nat}{p q:Po4}(h:rfP W p=rfP W q):p=q:=by
 cases p;cases q
 unfold rfP at h
 injection h with h1 h2 h3 h4
 dsimp only at h1 h2 h3 h4
 subst h2 h3 h4
 congr 1
 lia
theorem sw_ok {W H:Nat}{p:Po4}(h:PtOk W H p):PtOk H W (swP p):=⟨h.y,h.x⟩
theorem gcd_rf {W a b:Int}(h:Int.gcd a b=1):Int.gcd (W*b - a) b=1:=by
 have d1:((Int.gcd (W*b - a) b:Nat):Int) ∣ (W*b - a):=Int.gcd_dvd_left _ _
 have d2:((Int.gcd (W*b - a) b:Nat):Int) ∣ b:=Int.gcd_dvd_right _ _
 have d3:((Int.gcd (W*b - a) b:Nat):Int) ∣ a:=by
  have h:=Int.dvd_sub (Int.dvd_trans d2 (Int.dvd_mul_left W b)) d1
  have e:W*b - (W*b - a)=a:=by lia
  rw[e] at h
  exact h
 have d4:((Int.gcd (W*b - a) b:Nat):Int) ∣ ((Int.gcd a b:Nat):Int):=Int.dvd_coe_gcd d3 d2
 rw[h] at d4
 have:=Int.eq_one_of_dvd_one (by lia) d4
 lia
theorem rf_ok {W H:Nat}(hW:W<=8){p:Po4}(h:PtOk W H p):PtOk W H (rfP W p):=by
 have p4:(10:Nat) ^ 4=10000:=rfl
 have b0:=h.x.fr.pos
 have q3:=h.x.q3
 have mb:=mul_bd (a:=(W:Int)) (b:=p.b) (A:=8) (B:=1000) (by lia) (by lia) (by lia) q3
 have a0:=h.x.p0
 have a1:=h.x.p1
 refine⟨⟨⟨h.x.fr.pos,?_,h.x.fr.bot⟩,?_,?_,gcd_rf h.x.g,fun k e=>?_,q3⟩,h.y⟩
 ·show((W:Int)*p.b - p.a).natAbs<=_
  rw[p4]
  lia
 ·show 0<(W:Int)*p.b - p.a
  lia
 ·show(W:Int)*p.b - p.a<(W:Int)*p.b
  lia
 ·refine h.x.nw ((W:Int) - k) ?_
  have e:k*p.b=(W:Int)*p.b - p.a:=e
  rw[Int.sub_mul]
  lia
theorem nd_inj {f:Po4->Po4}(hf:∀p q,f p=f q->p=q){ps:List Po4}(h:ps.Nodup):(ps.map f).Nodup:=nodup_map h fun a _ b _ e=>hf a b e
theorem peo_of {W H:Nat}{ps:List Po4}(nd:ps.Nodup)(ok:∀p∈ps,PtOk W H p):Peo W H ps:=⟨nd,fun p hp=>(ok p hp).ins⟩
theorem hall_of {W H:Nat}{ps:List Po4}{one m:Nat}{o:Po4}(w0:1<=W)(w1:W<=8)(h0:1<=H)(h1:H<=8)(ok:∀p∈ps,PtOk W H p)(len:ps.length<=20)(me:ps[one]?=some o)(m4:m<=4):Hall W H ps one o m:=⟨w0,w1,h0,h1,fun p hp=>(ok p hp).ok,len,me,m4⟩
theorem pw_extR:∀l l':List Rw,(l.map (·.c)).Pairwise ltC->(l'.map (·.c)).Pairwise ltC->(∀z,z∈l↔z∈l')->l=l'
 |[],[],_,_,_=>rfl
 |[],y::r,_,_,h=>by have:=(h y).mpr List.mem_cons_self;cases this
 |x::r,[],_,_,h=>by have:=(h x).mp List.mem_cons_self;cases this
 |x::r,y::s,h1,h2,h=>by
  rw[List.map_cons,List.pairwise_cons] at h1 h2
  have m1:∀z∈r,ltC x.c z.c:=fun z hz=>h1.1 _ (List.mem_map.mpr ⟨z,hz,rfl⟩)
  have m2:∀z∈s,ltC y.c z.c:=fun z hz=>h2.1 _ (List.mem_map.mpr ⟨z,hz,rfl⟩)
  have e:x=y:=by
   rcases List.mem_cons.mp ((h x).mp List.mem_cons_self) with z|z
   ·exact z
   ·rcases List.mem_cons.mp ((h y).mpr List.mem_cons_self) with w|w
    ·exact w.symm
    ·exact(ltC_irr (ltC_trans (m1 y w) (m2 x z))).elim
  subst e
  have:r=s:=pw_extR r s h1.2 h2.2 fun z=>by
   constructor
   ·intro hz
    rcases List.mem_cons.mp ((h z).mp (List.mem_cons_of_mem _ hz)) with rfl|w
    ·exact(ltC_irr (m1 z hz)).elim
    ·exact w
   ·intro hz
    rcases List.mem_cons.mp ((h z).mpr (List.mem_cons_of_mem _ hz)) with rfl|w
    ·exact(ltC_irr (m2 z hz)).elim
    ·exact w
  rw[this]
def tD (r:Rw):D:=.tup [.int r.c.1,.int r.c.2,r.wd]
theorem wd_str {d:D}(h:WdOk d):∃s,d=.str s:=by
 rcases h with rfl|rfl|rfl
 ·exact⟨_,rfl⟩
 ·exact⟨_,rfl⟩
 ·exact⟨_,rfl⟩
theorem tD_lex {x y:Rw}(hx:WdOk x.wd)(hy:WdOk y.wd)(hn:y.c≠x.c):lexK (keyRow (tD y)) (keyRow (tD x))=true↔ltC y.c x.c:=by
 obtain⟨s,es⟩:=wd_str hx
 obtain⟨t,et⟩:=wd_str hy
 unfold tD
 rw[es,et]
 show lexK [.inl y.c.1,.inl y.c.2,.inr t] [.inl x.c.1,.inl x.c.2,.inr s]=true↔_
 unfold ltC
 simp only[lexK,ltK]
 by_cases h1:y.c.1=x.c.1
 ·have h2:y.c.2≠x.c.2:=fun z=>hn (Prod.ext h1 z)
  rw[h1,if_pos rfl,if_neg (by intro z;injection z with z;exact h2 z)]
  simp
 ·rw[if_neg (by intro z;injection z with z;exact h1 z)]
  simp[h1]
def insR (x:Rw):List Rw->List Rw
 |[]=>[x]
 |y::r=>if ltC y.c x.c then y::insR x r else x::y::r
def sortR:List Rw->List Rw
 |[]=>[]
 |x::r=>insR x (sortR r)
theorem insR_mem {x z:Rw}:∀{l:List Rw},z∈insR x l↔z=x\/z∈l
 |[]=>by simp[insR]
 |y::r=>by
  rw[insR]
  split
  ·rw[List.mem_cons,insR_mem,List.mem_cons]
   constructor
   ·rintro(h|h|h)
    ·exact .inr (.inl h)
    ·exact .inl h
    ·exact .inr (.inr h)
   ·rintro(h|h|h)
    ·exact .inr (.inl h)
    ·exact .inl h
    ·exact .inr (.inr h)
  ·rw[List.mem_cons]
theorem sortR_mem {z:Rw}:∀{l:List Rw},z∈sortR l↔z∈l
 |[]=>Iff.rfl
 |x::r=>by rw[sortR,insR_mem,sortR_mem,List.mem_cons]
theorem insR_D {x:Rw}(hx:WdOk x.wd):∀l:List Rw,(∀y∈l,WdOk y.wd/\y.c≠x.c)->insD (tD x) (l.map tD)=(insR x l).map tD
 |[],_=>rfl
 |y::r,h=>by
  obtain⟨w,n⟩:=h y List.mem_cons_self
  rw[List.map_cons,insD,insR]
  by_cases hl:ltC y.c x.c
  ·rw[if_pos ((tD_lex hx w n).mpr hl),if_pos hl,insR_D hx r fun z hz=>h z (List.mem_cons_of_mem _ hz),List.map_cons]
  ·rw[if_neg (fun z=>hl ((tD_lex hx w n).mp z)),if_neg hl,List.map_cons,List.map_cons]
theorem sortR_D:∀l:List Rw,(∀y∈l,WdOk y.wd)->(l.map (·.c)).Nodup->sortDs (l.map tD)=(sortR l).map tD
 |[],_,_=>rfl
 |x::r,h,nd=>by
  rw[List.map_cons,List.nodup_cons] at nd
  rw[List.map_cons,sortDs,sortR_D r (fun y hy=>h y (List.mem_cons_of_mem _ hy)) nd.2,insR_D (h x List.mem_cons_self),sortR]
  intro y hy
  have hy':=sortR_mem.mp hy
  exact⟨h y (List.mem_cons_of_mem _ hy'),fun z=>nd.1 (List.mem_map.mpr ⟨y,hy',z⟩)⟩
theorem insR_pw (x:Rw):∀l:List Rw,(l.map (·.c)).Pairwise ltC->(∀y∈l,y.c≠x.c)->((insR x l).map (·.c)).Pairwise ltC
 |[],_,_=>by simp[insR]
 |y::r,h,hx=>by
  rw[List.map_cons,List.pairwise_cons] at h
  have m1:∀z∈r,ltC y.c z.c:=fun z hz=>h.1 _ (List.mem_map.mpr ⟨z,hz,rfl⟩)
  rw[insR]
  split
  ·rename_i hl
   rw[List.map_cons,List.pairwise_cons]
   refine⟨fun z hz=>?_,insR_pw x r h.2 fun z hz=>hx z (List.mem_cons_of_mem _ hz)⟩
   obtain⟨w,hw,rfl⟩:=List.mem_map.mp hz
   rcases insR_mem.mp hw with rfl|hw
   ·exact hl
   ·exact m1 w hw
  ·rename_i hl
   have hxy:ltC x.c y.c:=ltC_tri hl (hx y List.mem_cons_self)
   rw[List.map_cons,List.pairwise_cons]
   refine⟨fun z hz=>?_,List.pairwise_cons.mpr h⟩
   obtain⟨w,hw,rfl⟩:=List.mem_map.mp hz
   rcases List.mem_cons.mp hw with rfl|hw
   ·exact hxy
   ·exact ltC_trans hxy (m1 w hw)
theorem sortR_pw:∀l:List Rw,(l.map (·.c)).Nodup->((sortR l).map (·.c)).Pairwise ltC
 |[],_=>List.Pairwise.nil
 |x::r,h=>by
  rw[List.map_cons,List.nodup_cons] at h
  exact insR_pw x _ (sortR_pw r h.2) fun y hy z=>h.1 (List.mem_map.mpr ⟨y,sortR_mem.mp hy,z⟩)
theorem cond_tD (l:List Rw)(h:∀y∈l,WdOk y.wd):condD (l.map tD)=true:=by
 have sig:∀y∈l,rowSig (tD y)=some [0,0,1]:=fun y hy=>by
  obtain⟨s,e⟩:=wd_str (h y hy)
  unfold tD
  rw[e]
  rfl
 cases l with
 |nil=>rfl
 |cons c l =>
  have e:=sig c List.mem_cons_self
  have a:(tD c::l.map tD).all (fun e=>rowSig e==some [0,0,1])=true:=by
   rw[<-List.map_cons (f:=tD),List.all_map,List.all_eq_true]
   intro x hx
   show(rowSig (tD x)==some [0,0,1])=true
   rw[sig x hx]
   rfl
  rw[List.map_cons]
  unfold condD
  dsimp only
  rw[e]
  dsimp only
  rw[a]
  rfl
theorem sort_rows {L1 L2:List Rw}(w:∀y∈L1,WdOk y.wd)(nd:(L1.map (·.c)).Nodup)(pw:(L2.map (·.c)).Pairwise ltC)(hm:∀z,z∈L1↔z∈L2)(hl:L1.length<=1000):bSortG [.lst (L1.map tD)]=.ok (.lst (L2.map tD)):=by
 show sortGD _=_
 unfold sortGD
 rw[few_of (by rw[List.length_map];lia),cond_tD L1 w,sortR_D L1 w nd]
 rw[pw_extR (sortR L1) L2 (sortR_pw L1 nd) pw fun z=>by rw[sortR_mem,hm]]
 rfl
def pk (r:Rw):List Key×D:=(kP r.c,r.wh)
theorem all_nd:∀(rs kvs:List (List Key×D)),((kvs++rs).map (·.1)).Nodup->rs.foldl (fun kvs r=>putD kvs r.1 r.2) kvs=kvs++rs
 |[],kvs,_=>by simp
 |r::rs,kvs,nd=>by
  have nn:(kvs.any fun kv=>decide (kv.1=r.1))=false:=by
   rw[Bool.eq_false_iff]
   intro z
   obtain⟨kv,hk,e⟩:=List.any_eq_true.mp z
   rw[List.map_append,List.nodup_append] at nd
   exact nd.2.2 _ (List.mem_map.mpr ⟨kv,hk,rfl⟩) _ (List.mem_map.mpr ⟨r,List.mem_cons_self,rfl⟩) (of_decide_eq_true e)
  have e1:putD kvs r.1 r.2=kvs++[r]:=by
   unfold putD
   rw[nn]
   rfl
  rw[List.foldl_cons,e1,all_nd rs (kvs++[r]) (by rw[List.append_assoc];exact nd),List.append_assoc]
  rfl
theorem allD_nd {rs:List (List Key×D)}(nd:(rs.map (·.1)).Nodup):allD rs=rs:=by
 have:=all_nd rs [] (by simpa using nd)
 rw[List.nil_append] at this
 exact this
theorem pk_nd {l:List Rw}(nd:(l.map (·.c)).Nodup):((l.map pk).map (·.1)).Nodup:=by
 rw[List.map_map]
 have e:(fun r:Rw=>r.c)=fun r:Rw=>r.c:=rfl
 have:l.map ((·.1)∘pk)=(l.map (·.c)).map kP:=by rw[List.map_map];rfl
 rw[this]
 exact nodup_map nd fun a _ b _ e=>kP_inj.mp e
theorem get_pk:∀{l:List Rw},(l.map (·.c)).Nodup->∀{r:Rw},r∈l->getD' (l.map pk) (kP r.c)=some r.wh
 |[],_,r,h=>by cases h
 |x::l,nd,r,h=>by
  rw[List.map_cons,List.nodup_cons] at nd
  unfold getD'
  rw[List.map_cons,List.find?_cons]
  by_cases e:x.c=r.c
  ·have:decide ((pk x).1=kP r.c)=true:=decide_eq_true (show kP x.c=kP r.c by rw[e])
   rw[this]
   rcases List.mem_cons.mp h with rfl|h
   ·rfl
   ·exact(nd.1 (List.mem_map.mpr ⟨r,h,e.symm⟩)).elim
  ·have:decide ((pk x).1=kP r.c)=false:=decide_eq_false fun z=>e (kP_inj.mp z)
   rw[this]
   rcases List.mem_cons.mp h with rfl|h
   ·exact absurd rfl e
   ·exact get_pk nd.2 h
theorem same_rows {L1 L2:List Rw}(n1:(L1.map (·.c)).Nodup)(n2:(L2.map (·.c)).Nodup)(hm:∀z,z∈L1->z∈L2)(hl:L1.length=L2.length):sameD (allD (L1.map pk)) (allD (L2.map pk))=true:=by
 rw[allD_nd (pk_nd n1),allD_nd (pk_nd n2)]
 unfold sameD
 rw[List.length_map,List.length_map,decide_eq_true hl,Bool.true_and,List.all_map,List.all_eq_true]
 intro r hr
 show(match getD' (L2.map pk) (kP r.c) with|some d=>D.eq r.wh d|none=>false)=true
 rw[get_pk n2 (hm r hr)]
 exact D.eq_refl _
def pD (r:Rw):D:=.tup [cD r.c,r.wh]
theorem pairs_pD:∀l:List Rw,pairsD (l.map pD)=some (l.map pk)
 |[]=>rfl
 |r::l=>by
  rw[List.map_cons,List.map_cons,pairsD,pairs_pD l]
  rfl
def WhOk (d:D):Prop:=d.dep=0
theorem deps_pD (l:List Rw)(h:∀r∈l,WhOk r.wh):D.deps (l.map pD)<=60:=deps_le fun d hd=>by
 obtain⟨r,hr,rfl⟩:=List.mem_map.mp hd
 have:=h r hr
 unfold WhOk at this
 simp[pD,cD,D.dep,D.deps,this]
theorem deq_ok {neg:Bool}{fa fb:DSt->M (List D)}{sd:DSt}{L1 L2:List Rw}(h1:fa sd=.ok [.lst (L1.map pD)])(h2:fb sd=.ok [.lst (L2.map pD)])(n1:(L1.map (·.c)).Nodup)(n2:(L2.map (·.c)).Nodup)(hm:∀z,z∈L1->z∈L2)(hl:L1.length=L2.length)(hs:L1.length<=1000)(hw:∀r∈L1,WhOk r.wh):eDEq neg fa fb sd=.ok (.bl (!neg)):=by
 unfold eDEq
 rw[h1,h2]
 dsimp only
 rw[pairs_pD,pairs_pD]
 dsimp only
 rw[few_of (by rw[List.length_map];lia),few_of (by rw[List.length_map];lia),decide_eq_true (deps_pD L1 hw),same_rows n1 n2 hm hl]
 cases neg<;>rfl
theorem len_of {L1 L2:List Rw}(n1:(L1.map (·.c)).Nodup)(pw:(L2.map (·.c)).Pairwise ltC)(hm:∀z,z∈L1↔z∈L2):L1.length=L2.length:=by
 have e:=pw_extR (sortR L1) L2 (sortR_pw L1 n1) pw fun z=>by rw[sortR_mem,hm]
 have ln:∀l:List Rw,(sortR l).length=l.length:=fun l=>by
  induction l with
  |nil=>rfl
  |cons x r ih =>
   have il:∀l:List Rw,(insR x l).length=l.length+1:=fun l=>by
    induction l with
    |nil=>rfl
    |cons y r ih =>
     rw[insR]
     split
     ·rw[List.length_cons,ih,List.length_cons]
     ·rfl
   rw[sortR,il,ih,List.length_cons]
 rw[<-e,ln]
theorem pw_nd {l:List Pr}(h:l.Pairwise ltC):l.Nodup:=List.Pairwise.imp (S:=fun a b=>a≠b) (fun {a b} (hab:ltC a b) (e:a=b)=>by subst e;exact ltC_irr hab) h
end Law
set_option maxRecDepth 100000
set_option maxHeartbeats 4000000
set_option linter.all false
namespace Law
open PySem L2 DL
theorem f_back (i:Int):F_l_back [.int i]=.ok (.im (.int (bk i))):=by
 have hl:∀sd:DSt,eVar 0 sd=.ok (.int i)->eLst (aCons (eOp DL.gSub (eC (.int 0)) (eVar 0)) (aCons (eVar 0) aNil)) sd=.ok (.lst [.int (0 - i),.int i]):=fun sd h=>lst_of (aC (op_ok rfl h rfl) (a1 h)) rfl
 have hm:∀sd:DSt,eVar 0 sd=.ok (.int i)->eOp gMod (eVar 0) (eC (.int 2)) sd=.ok (.int (i % 2)):=fun sd h=>op_ok h rfl (gM (by decide))
 refine(fn1 _ _ _).trans (fin_of (ret_ok ?_))
 unfold bk
 by_cases h:i % 2=1
 ·rw[if_pos h]
  exact ix_ok (hl _ rfl) ((hm _ rfl).trans (by rw[h])) (atI1 _ _ _)
 ·rw[if_neg h]
  have h0:i % 2=0:=by lia
  exact(ix_ok (hl _ rfl) ((hm _ rfl).trans (by rw[h0])) (atI0 _ _)).trans (by rw[Int.zero_sub])
def seenOf (l:List Rw):List Pr:=(l.filter isSeen).map (·.c)
theorem f_seen {l:List Rw}(h:∀r∈l,WdOk r.wd)(hl:l.length<=1000):F_l_seen [.lst (l.map Rw.D)]=.ok (.ow ((seenOf l).map cD)):=by
 have c1:fCompIf (iSeq (eVar 0)) 1 [] (gNm 0) (DL.tB (eOp gEq (eOp gIx (eVar 0) (eC (.int 2))) (eC (.str (Str.ofString "seen"))))) (eSl (eVar 0) oNone (oSome (eC (.int 2)))) [some (.im (.lst (l.map Rw.D)))]=.ok ((l.filter isSeen).map fun r=>cD r.c):=by
  unfold fCompIf
  rw[seq_l (ds:=l.map Rw.D) rfl,M.bind_ok,few_of (by rw[List.length_map];lia),if_pos rfl]
  exact filQ Rw.D (fun r=>cD r.c) isSeen l fun r hr=>⟨_,rfl,tB_b (op_ok (ixt_ok rfl rfl (atI2 _ _ _ _)) rfl (eq_seen (h r hr))),rfl⟩
 refine(fn1 _ _ _).trans (fin_of ?_)
 show(fCompIf _ _ _ _ _ _ _).bind _=_
 rw[show([some (S.im (.lst (l.map Rw.D)))]++List.replicate 0 none:DSt)=[some (S.im (.lst (l.map Rw.D)))] from rfl,c1,M.bind_ok]
 unfold seenOf
 rw[List.map_map]
 rfl
theorem f_drawn (ns:List Int)(hl:ns.length<=63):∃W H ps one oth,Drw W H ps one oth/\F_l_drawn [.lst (ns.map D.int)]=.ok (.im (.tup [.int (W:Int),.int (H:Int),.lst (ps.map Po4.D),.int (one:Int),.int (oth:Int)])):=by
 obtain⟨es,hes,_,en⟩:=f_numbers (cz ns 0) 1 (by lia)
 obtain⟨x,rfl⟩:∃x,es=[x]:=by
  match es,hes with
  |[x],_=>exact⟨x,rfl⟩
 have f0:=f_cell ns 0 hl
 have fc:=f_cell ns 2 hl
 obtain⟨w,ew,hw⟩:=mod_nat x (n:=4) (by decide)
 obtain⟨u,eu,hu⟩:=mod_nat (x / 4) (n:=4) (by decide)
 obtain⟨i,ei,hi⟩:=mod_nat (x / 16) (n:=4) (by decide)
 obtain⟨k,ek,hk⟩:=mod_nat (x / 64) (n:=6) (by decide)
 obtain⟨B,b0,b1,eB⟩:=bot_ix i (by lia)
 have c1:(1:Int)+(w:Int)=((1+w:Nat):Int):=by lia
 have c2:(1:Int)+(u:Int)=((1+u:Nat):Int):=by lia
 obtain⟨ms,lm,ec⟩:=cut_ints ns k
 obtain⟨ps,ok,nd,l,l0,e⟩:=f_people (W:=1+w) (H:=1+u) (by lia) (by lia) (by lia) (by lia) b0 b1 (cz ns 2::ms) (by simp) (by rw[List.length_cons];lia)
 obtain⟨one,e1,o1⟩:=mod_nat (x / 384) (n:=(ps.length:Int)) (by lia)
 obtain⟨oth,e2,o2⟩:=mod_nat (x / 2304) (n:=(ps.length:Int)) (by lia)
 refine⟨1+w,1+u,ps,one,oth,⟨by lia,by lia,by lia,by lia,ok,nd,l,by lia,by lia⟩,?_⟩
 have ln:bLen [.lst (ps.map Po4.D)]=.ok (.int (ps.length:Int)):=len_ok.trans (by rw[List.length_map])
 have pl:=plus_l (xs:=[D.int (cz ns 2)]) (ys:=ms.map D.int) (by rw[List.length_singleton,List.length_map];lia)
 have sl:∀r:List (Option S),eSl (eVar 0) (oSome (eC (.int 3))) (oSome (eOp gPlus (eC (.int 3)) (eOp gMod (eOp gFdiv (eVar 1) (eC (.int 64))) (eC (.int 6))))) (some (.im (.lst (ns.map D.int)))::some (.im (.int x))::r)=.ok (.lst (ms.map D.int)):=fun r=>by
  have hm:oSome (eOp gPlus (eC (.int 3)) (eOp gMod (eOp gFdiv (eVar 1) (eC (.int 64))) (eC (.int 6)))) (some (.im (.lst (ns.map D.int)))::some (.im (.int x))::r)=.ok (some ((3+k:Nat):Int)):=by
   unfold oSome
   rw[op_ok (x:=.int 3) (y:=.int (k:Int)) (r:=.ok (.int ((3+k:Nat):Int))) rfl ((md_ok (v:=1) (by decide) (by decide) (by decide) rfl).trans (by rw[ek])) (by rw[show((3+k:Nat):Int)=3+(k:Int) by lia];rfl)]
   rfl
  unfold eSl
  rw[show eVar 0 (some (.im (.lst (ns.map D.int)))::some (.im (.int x))::r)=.ok (.lst (ns.map D.int)) from rfl,M.bind_ok,show oSome (eC (.int 3)) (some (.im (.lst (ns.map D.int)))::some (.im (.int x))::r)=.ok (some ((3:Nat):Int)) from rfl,M.bind_ok,hm,M.bind_ok]
  show M.ok (D.lst (cutD _ _ _))=_
  rw[ec]
 generalize ns.map D.int=N at *
 refine(fn1 _ _ _).trans (fin_of (go (set_ok (ix_ok (ds:=[D.int x]) (call_ok (aC (call_ok (aC rfl (a1 rfl)) f0 rfl) (a1 rfl)) en rfl) rfl (atI0 _ _))) (go (set_ok (d:=.int ((1+w:Nat):Int)) ?_) (go (set_ok (d:=.int ((1+u:Nat):Int)) ?_) (go (set_ok (d:=.int B) ?_) (go (set_ok (call_ok (aC (op_ok (lst_of (a1 (call_ok (aC rfl (a1 rfl)) fc rfl)) rfl) (sl _) pl) (aC rfl (aC rfl (a1 rfl)))) e rfl)) (go (set_ok (d:=.int (one:Int)) ?_) (go (set_ok (d:=.int (oth:Int)) ?_) (ret_ok (tup5 rfl rfl rfl rfl rfl))))))))))
 ·refine(op_ok rfl (op_ok rfl rfl (gM (by decide))) rfl).trans ?_
  rw[ew,<-c1];rfl
 ·refine(op_ok rfl (md_ok (by decide) (by decide) (by decide) rfl) rfl).trans ?_
  rw[eu,<-c2];rfl
 ·exact op_ok (lst_of (aC rfl (aC rfl (aC rfl (a1 rfl)))) rfl) ((md_ok (by decide) (by decide) (by decide) rfl).trans (by rw[ei])) eB
 ·exact(op_ok (op_ok rfl rfl (gFd (by decide) (smI (by decide) (by decide)))) (cb_ok (a1 rfl) ln) (gM (by lia))).trans (by rw[e1])
 ·exact(op_ok (op_ok rfl rfl (gFd (by decide) (smI (by decide) (by decide)))) (cb_ok (a1 rfl) ln) (gM (by lia))).trans (by rw[e2])
def mvR (τ:Pr->Pr)(r:Rw):Rw:=⟨τ r.c,r.wd,r.wh⟩
theorem wh_ok {W H:Nat}{ps:List Po4}{one:Nat}{o:Po4}{m:Nat}(h:Hall W H ps one o m){oth:Nat}{q:Po4}(hq:ps[oth]?=some q){r:Rw}(hr:r∈rowsL o q W H ps oth m):WhOk r.wh:=by
 obtain⟨_,_,hh⟩:=row_is h hq hr
 rcases hh with⟨_,_,e⟩|⟨_,c,_,t,ht,_,_,_,_,e⟩
 ·rw[e];exact rfl
 ·rw[e]
  rcases th_form ht with⟨r,_,rfl⟩|⟨k,p,_,rfl⟩
  ·exact rfl
  ·exact rfl
structure Same2 (L1 L2:List Rw):Prop where
 w:∀y∈L1,WdOk y.wd
 wh:∀y∈L1,WhOk y.wh
 nd:(L1.map (·.c)).Nodup
 pw:(L2.map (·.c)).Pairwise ltC
 mem:∀z,z∈L1↔z∈L2
 len:L1.length<=41
theorem Sy.same {o q:Po4}{W H:Nat}{ps:List Po4}{o' q':Po4}{W' H':Nat}{ps':List Po4}{m:Nat}{τ:Pr->Pr}{T:Vc->Vc}(y:Sy o q W H ps o' q' W' H' ps' m τ T)(tt:∀c,τ (τ c)=c){one oth:Nat}(h:Hall W H ps one o m)(pe:Peo W H ps)(hq:ps[oth]?=some q)(h':Hall W' H' ps' one o' m)(pe':Peo W' H' ps')(hq':ps'[oth]?=some q'):Same2 ((rowsL o' q' W' H' ps' oth m).map (mvR τ)) (rowsL o q W H ps oth m) where
 w:=fun z hz=>by
  obtain⟨r,hr,rfl⟩:=List.mem_map.mp hz
  exact(KP_wd h' hq' hr).1
 wh:=fun z hz=>by
  obtain⟨r,hr,rfl⟩:=List.mem_map.mp hz
  exact(wh_ok h' hq' hr:WhOk r.wh)
 nd:=by
  rw[List.map_map]
  have e:(rowsL o' q' W' H' ps' oth m).map ((·.c)∘mvR τ)=((rowsL o' q' W' H' ps' oth m).map (·.c)).map τ:=by rw[List.map_map];rfl
  rw[e]
  exact nodup_map (pw_nd (rows_nd h' oth q')) fun a _ b _ e=>by
   have:=congrArg τ e
   rwa[tt,tt] at this
 pw:=rows_nd h oth q
 mem:=fun z=>by
  rw[List.mem_map,row_iff h pe hq]
  constructor
  ·rintro⟨r,hr,rfl⟩
   have:=(row_iff h' pe' hq' r).mp hr
   refine(y.row (τ r.c) r.wd r.wh).mp ?_
   rw[tt]
   exact this
  ·intro hz
   refine⟨mvR τ z,(row_iff h' pe' hq' _).mpr ((y.row z.c z.wd z.wh).mpr hz),?_⟩
   unfold mvR
   dsimp only
   rw[tt]
 len:=by
  rw[List.length_map]
  exact rows_len h' oth q'
theorem swC_swC (c:Pr):swC (swC c)=c:=rfl
theorem rfC_rfC (c:Pr):rfC (rfC c)=c:=by unfold rfC;dsimp only;rw[Int.neg_neg]
theorem rw_len {l:List Rw}(h:l.length<=41):(l.map Rw.D).length<=1000:=by rw[List.length_map];lia
theorem cut3r (r:Rw):∀{f:DSt->M D} {sd:DSt},f sd=.ok r.D->eSl f oNone (oSome (eC (.int 3))) sd=.ok (tD r):=fun {f sd} h=>by
 unfold eSl
 rw[h]
 rfl
theorem cut2w (r:Rw):∀{f:DSt->M D} {sd:DSt},f sd=.ok r.D->eSl f oNone (oSome (eC (.int 2))) sd=.ok (cD r.c):=fun {f sd} h=>by
 unfold eSl
 rw[h]
 rfl
noncomputable def g4:D->DSt->M DSt:=gTupD 4 (gsCons (gNm 0) (gsCons (gNm 1) (gsCons (gNm 2) (gsCons (gNm 3) gsNil))))
theorem c_first {f:DSt->M D}{sd:DSt}{l:List Rw}(h:f sd=.ok (.lst (l.map Rw.D)))(hl:l.length<=41):eNew (fComp (iSeq f) 1 [] (gNm 0) (eSl (eVar 0) oNone (oSome (eC (.int 3))))) sd=.ok (.lst (l.map tD)) :=
 new_ok (comp_ok (seq_l h) (rw_len hl) (mapQ Rw.D tD l fun r _=>⟨_,rfl,cut3r r rfl⟩))
theorem c_pairs {f:DSt->M D}{sd:DSt}{l:List Rw}(h:f sd=.ok (.lst (l.map Rw.D)))(hl:l.length<=41):eNew (fComp (iSeq f) 1 [] (gNm 0) (eTup (aCons (eSl (eVar 0) oNone (oSome (eC (.int 2)))) (aCons (eOp gIx (eVar 0) (eC (.int 3))) aNil)))) sd=.ok (.lst (l.map pD)) :=
 new_ok (comp_ok (seq_l h) (rw_len hl) (mapQ Rw.D pD l fun r _=>⟨_,rfl,tup2 (cut2w r rfl) (ixt_ok rfl rfl (atI3 _ _ _ _ _))⟩))
theorem c_sw {f:DSt->M D}{sd:DSt}{l:List Rw}(h:f sd=.ok (.lst (l.map Rw.D)))(hl:l.length<=41):eNew (fComp (iSeq f) 4 [] g4 (eTup (aCons (eVar 1) (aCons (eVar 0) (aCons (eVar 2) aNil))))) sd=.ok (.lst ((l.map (mvR swC)).map tD)):=by
 refine(new_ok (comp_ok (seq_l h) (rw_len hl) (mapQ Rw.D (fun r=>tD (mvR swC r)) l fun r _=>⟨_,rfl,tup3 rfl rfl rfl⟩))).trans ?_
 rw[List.map_map];rfl
theorem c_swp {f:DSt->M D}{sd:DSt}{l:List Rw}(h:f sd=.ok (.lst (l.map Rw.D)))(hl:l.length<=41):eNew (fComp (iSeq f) 4 [] g4 (eTup (aCons (eTup (aCons (eVar 1) (aCons (eVar 0) aNil))) (aCons (eVar 3) aNil)))) sd=.ok (.lst ((l.map (mvR swC)).map pD)):=by
 refine(new_ok (comp_ok (seq_l h) (rw_len hl) (mapQ Rw.D (fun r=>pD (mvR swC r)) l fun r _=>⟨_,rfl,tup2 (tup2 rfl rfl) rfl⟩))).trans ?_
 rw[List.map_map];rfl
theorem neg_ok {f:DSt->M D}{sd:DSt}{i:Int}(h:f sd=.ok (.int i)):eOp DL.gSub (eC (.int 0)) f sd=.ok (.int (-i)):=op_ok (x:=.int 0) rfl h (show M.ok (D.int (0 - i))=_ by rw[Int.zero_sub])
theorem c_rf {f:DSt->M D}{sd:DSt}{l:List Rw}(h:f sd=.ok (.lst (l.map Rw.D)))(hl:l.length<=41):eNew (fComp (iSeq f) 4 [] g4 (eTup (aCons (eOp DL.gSub (eC (.int 0)) (eVar 0)) (aCons (eVar 1) (aCons (eVar 2) aNil))))) sd=.ok (.lst ((l.map (mvR rfC)).map tD)):=by
 refine(new_ok (comp_ok (seq_l h) (rw_len hl) (mapQ Rw.D (fun r=>tD (mvR rfC r)) l fun r _=>⟨_,rfl,tup3 (neg_ok rfl) rfl rfl⟩))).trans ?_
 rw[List.map_map];rfl
theorem c_rfp {f:DSt->M D}{sd:DSt}{l:List Rw}(h:f sd=.ok (.lst (l.map Rw.D)))(hl:l.length<=41):eNew (fComp (iSeq f) 4 [] g4 (eTup (aCons (eTup (aCons (eOp DL.gSub (eC (.int 0)) (eVar 0)) (aCons (eVar 1) aNil))) (aCons (eVar 3) aNil)))) sd=.ok (.lst ((l.map (mvR rfC)).map pD)):=by
 refine(new_ok (comp_ok (seq_l h) (rw_len hl) (mapQ Rw.D (fun r=>pD (mvR rfC r)) l fun r _=>⟨_,rfl,tup2 (tup2 (neg_ok rfl) rfl) rfl⟩))).trans ?_
 rw[List.map_map];rfl
theorem c_back {f:DSt->M D}{sd:DSt}{l:List Rw}(h:f sd=.ok (.lst (l.map Rw.D)))(hw:∀r∈l,WdOk r.wd)(hl:l.length<=41):eNew (fComp (iSeq (eCall F_l_seen (aCons f aNil))) 2 [] (gTupD 2 (gsCons (gNm 0) (gsCons (gNm 1) gsNil))) (eTup (aCons (eCall F_l_back (aCons (eVar 0) aNil)) (aCons (eCall F_l_back (aCons (eVar 1) aNil)) aNil)))) sd=.ok (.lst (((seenOf l).map bkC).map cD)):=by
 have sl:(seenOf l).length<=41:=by
  unfold seenOf
  rw[List.length_map]
  exact Nat.le_trans (List.length_filter_le _ _) hl
 refine(new_ok (comp_ok (seq_l (call_ok (a1 h) (f_seen hw (by lia)) rfl)) (by rw[List.length_map];lia) (mapQ cD (fun c=>cD (bkC c)) (seenOf l) fun c _=>⟨[some (.im (.int c.1)),some (.im (.int c.2))],rfl,tup2 (call_ok (a1 rfl) (f_back c.1) rfl) (call_ok (a1 rfl) (f_back c.2) rfl)⟩))).trans ?_
 rw[List.map_map];rfl
theorem dep_tD {l:List Rw}(h:∀r∈l,WdOk r.wd):(D.lst (l.map tD)).dep<=60:=by
 have:D.deps (l.map tD)<=3:=deps_le fun d hd=>by
  obtain⟨r,hr,rfl⟩:=List.mem_map.mp hd
  obtain⟨s,e⟩:=wd_str (h r hr)
  simp[tD,e,D.dep,D.deps]
 simp only[D.dep]
 lia
theorem dep_cD (l:List Pr):(D.lst (l.map cD)).dep<=60:=by
 have:D.deps (l.map cD)<=3:=deps_le fun d hd=>by
  obtain⟨c,_,rfl⟩:=List.mem_map.mp hd
  simp[cD,D.dep,D.deps]
 simp only[D.dep]
 lia
end Law
set_option maxRecDepth 100000
set_option maxHeartbeats 4000000
set_option linter.all false
namespace Law
open PySem L2 DL
theorem asg5 {f:DSt->M D}{i j k l n:Nat}{sd:DSt}{a b c d e:D}(h:f sd=.ok (.tup [a,b,c,d,e])):sAsg f (gTupD 5 (gsCons (gNm i) (gsCons (gNm j) (gsCons (gNm k) (gsCons (gNm l) (gsCons (gNm n) gsNil)))))) sd=.ok (.nx (((((sd.set i (some (.im a))).set j (some (.im b))).set k (some (.im c))).set l (some (.im d))).set n (some (.im e)))):=by
 unfold sAsg
 rw[h]
 rfl
theorem rowD_2 {f:DSt->M D}{sd:DSt}(r:Rw)(h:f sd=.ok r.D):eOp gIx f (eC (.int 2)) sd=.ok r.wd:=ixt_ok h rfl (atI2 _ _ _ _)
theorem f_how {W H:Nat}{ps:List Po4}{one:Nat}{o:Po4}{m:Nat}(h:Hall W H ps one o m){oth:Nat}{q:Po4}(hq:ps[oth]?=some q):F_how_many [.int (W:Int),.int (H:Int),.lst (ps.map Po4.D),.int (one:Int),.int (oth:Int),.int (m:Int)]=.ok (.im (.int ((seenC o q W H ps oth m).length:Int))):=by
 have fc:=f_cells h hq
 have rl:=rows_len h oth q
 have c1:eNew (fCompIf (iSeq (eCall F_cells (aCons (eVar 0) (aCons (eVar 1) (aCons (eVar 2) (aCons (eVar 3) (aCons (eVar 4) (aCons (eVar 5) aNil)))))))) 1 [] (gNm 0) (DL.tB (eOp gEq (eOp gIx (eVar 0) (eC (.int 2))) (eC (.str (Str.ofString "seen"))))) (eVar 0)) [some (.im (.int (W:Int))),some (.im (.int (H:Int))),some (.im (.lst (ps.map Po4.D))),some (.im (.int (one:Int))),some (.im (.int (oth:Int))),some (.im (.int (m:Int)))]=.ok (.lst (((rowsL o q W H ps oth m).filter isSeen).map Rw.D)) :=
  compIf_ok Rw.D Rw.D isSeen (l:=rowsL o q W H ps oth m) (seq_l (call_ok (aC rfl (aC rfl (aC rfl (aC rfl (aC rfl (a1 rfl)))))) fc rfl)) (by lia) fun r hr=>⟨_,rfl,tB_b (op_ok (rowD_2 r rfl) rfl (eq_seen (KP_wd h hq hr).1)),rfl⟩
 refine(fn6 _ _ _ _ _ _ _ _).trans (fin_of (ret_ok ((cb_ok (a1 c1) len_ok).trans ?_)))
 unfold seenC
 rw[List.length_map,List.length_map]
theorem back_seen {W H:Nat}{ps:List Po4}{one oth:Nat}{o q:Po4}{m:Nat}(h:Hall W H ps one o m)(h':Hall W H ps oth q m)(pe:Peo W H ps):sortC ((seenC o q W H ps oth m).map bkC)=seenC q o W H ps one m:=by
 refine pw_ext _ _ (sortC_pw _ ?_) (seenC_pw h' one o) fun z=>?_
 ·exact nodup_map (pw_nd (seenC_pw h oth q)) fun a _ b _ e=>by
   have:=congrArg bkC e
   rwa[bkC_bkC,bkC_bkC] at this
 ·rw[sortC_mem,List.mem_map]
  constructor
  ·rintro⟨c,hc,rfl⟩
   obtain⟨a1,a2,a3⟩:=(seenC_mem h h'.me c).mp hc
   exact(seenC_mem h' h.me _).mpr (seen_back h h' pe a1 a2 a3)
  ·intro hz
   obtain⟨a1,a2,a3⟩:=(seenC_mem h' h.me z).mp hz
   exact⟨bkC z,(seenC_mem h h'.me _).mpr (seen_back h' h pe a1 a2 a3),bkC_bkC z⟩
theorem low_self {p q:Int}(h:Int.gcd p q=1):low p q=nD p q:=by
 unfold low
 rw[h]
 simp
theorem po_len {ps:List Po4}(h:ps.length<=20):(ps.map Po4.D).length<=1000:=by rw[List.length_map];lia
theorem c_lain {f:DSt->M D}{sd:DSt}{ps:List Po4}(h:f sd=.ok (.lst (ps.map Po4.D)))(hl:ps.length<=20):eNew (fComp (iSeq f) 2 [] (gTupD 2 (gsCons (gNm 0) (gsCons (gNm 1) gsNil))) (eTup (aCons (eVar 1) (aCons (eVar 0) aNil)))) sd=.ok (.lst ((ps.map swP).map Po4.D)):=by
 refine(new_ok (comp_ok (seq_l h) (po_len hl) (mapQ Po4.D (fun p=>(swP p).D) ps fun p _=>⟨[some (.im (nD p.a p.b)),some (.im (nD p.c p.d))],rfl,tup2 rfl rfl⟩))).trans ?_
 rw[List.map_map];rfl
theorem c_turned {f:DSt->M D}{sd:DSt}{W H:Nat}{ps:List Po4}(h:f sd=.ok (.lst (ps.map Po4.D)))(hW:W<=8)(ok:∀p∈ps,PtOk W H p)(hl:ps.length<=20)(hc:sdC 2 [1] sd=[none,none,some (.im (.int (W:Int)))]):eNew (fComp (iSeq f) 2 [1] (gTupD 2 (gsCons (gNm 0) (gsCons (gNm 1) gsNil))) (eTup (aCons (eCall F_l_lowest (aCons (eOp DL.gSub (eOp gTimes (eVar 2) (eOp gIx (eVar 0) (eC (.int 1)))) (eOp gIx (eVar 0) (eC (.int 0)))) (aCons (eOp gIx (eVar 0) (eC (.int 1))) aNil))) (aCons (eVar 1) aNil)))) sd=.ok (.lst ((ps.map (rfP W)).map Po4.D)):=by
 refine(new_ok (comp_ok (seq_l h) (po_len hl) (mapQ Po4.D (fun p=>(rfP W p).D) ps fun p hp=>?_))).trans ?_
 ·rw[hc]
  have r:=rf_ok hW (ok p hp)
  have fl:=f_low r.x.fr (by decide)
  have e:low (rfP W p).a (rfP W p).b=nD (rfP W p).a (rfP W p).b:=low_self r.x.g
  rw[e] at fl
  have q3:=(ok p hp).x.q3
  have b0:=(ok p hp).x.fr.pos
  refine⟨[some (.im (nD p.a p.b)),some (.im (nD p.c p.d)),some (.im (.int (W:Int)))],rfl,tup2 (call_ok (aC (op_ok (op_ok rfl (ixt_ok rfl rfl (atI1 _ _ _)) (gT (smI (by lia) (by lia)) (smI (by lia) (by lia)))) (ixt_ok rfl rfl (atI0 _ _)) rfl) (a1 (ixt_ok rfl rfl (atI1 _ _ _)))) fl rfl) rfl⟩
 ·rw[List.map_map];rfl
theorem law_true (ns:List Int)(hns:ns.length<=63):F_law [.lst (ns.map D.int)]=.ok (.im (.bl true)):=by
 obtain⟨W,H,ps,one,oth,dr,ed⟩:=f_drawn ns hns
 have f1:=f_cell ns 1 hns
 obtain⟨m,em,hm⟩:=mod_nat (cz ns 1) (n:=4) (by decide)
 obtain⟨o,eo⟩:∃o,ps[one]?=some o:=⟨_,List.getElem?_eq_getElem dr.o1⟩
 obtain⟨q,eq⟩:∃q,ps[oth]?=some q:=⟨_,List.getElem?_eq_getElem dr.o2⟩
 have m4:m<=4:=by lia
 have h:Hall W H ps one o m:=hall_of dr.w0 dr.w1 dr.h0 dr.h1 dr.ok dr.len eo m4
 have h':Hall W H ps oth q m:=hall_of dr.w0 dr.w1 dr.h0 dr.h1 dr.ok dr.len eq m4
 have pe:Peo W H ps:=peo_of dr.nd dr.ok
 have sok:∀p∈ps.map swP,PtOk H W p:=fun p hp=>by
  obtain⟨p0,h0,rfl⟩:=List.mem_map.mp hp
  exact sw_ok (dr.ok p0 h0)
 have rok:∀p∈ps.map (rfP W),PtOk W H p:=fun p hp=>by
  obtain⟨p0,h0,rfl⟩:=List.mem_map.mp hp
  exact rf_ok dr.w1 (dr.ok p0 h0)
 have hs:Hall H W (ps.map swP) one (swP o) m:=hall_of dr.h0 dr.h1 dr.w0 dr.w1 sok (by rw[List.length_map];exact dr.len) (enum_ix eo) m4
 have hr:Hall W H (ps.map (rfP W)) one (rfP W o) m:=hall_of dr.w0 dr.w1 dr.h0 dr.h1 rok (by rw[List.length_map];exact dr.len) (enum_ix eo) m4
 have pes:Peo H W (ps.map swP):=peo_of (nd_inj (fun _ _=>swP_inj) dr.nd) sok
 have per:Peo W H (ps.map (rfP W)):=peo_of (nd_inj (fun _ _=>rfP_inj) dr.nd) rok
 have fc:F_cells [.int (W:Int),.int (H:Int),.lst (ps.map Po4.D),.int (one:Int),.int (oth:Int),.int (m:Int)]=.ok (.ow ((rowsL o q W H ps oth m).map Rw.D)):=f_cells h eq
 have fb:F_cells [.int (W:Int),.int (H:Int),.lst (ps.map Po4.D),.int (oth:Int),.int (one:Int),.int (m:Int)]=.ok (.ow ((rowsL q o W H ps one m).map Rw.D)):=f_cells h' eo
 have fs:F_cells [.int (H:Int),.int (W:Int),.lst ((ps.map swP).map Po4.D),.int (one:Int),.int (oth:Int),.int (m:Int)]=.ok (.ow ((rowsL (swP o) (swP q) H W (ps.map swP) oth m).map Rw.D)):=f_cells hs (enum_ix (f:=swP) eq)
 have fr:F_cells [.int (W:Int),.int (H:Int),.lst ((ps.map (rfP W)).map Po4.D),.int (one:Int),.int (oth:Int),.int (m:Int)]=.ok (.ow ((rowsL (rfP W o) (rfP W q) W H (ps.map (rfP W)) oth m).map Rw.D)):=f_cells hr (enum_ix (f:=rfP W) eq)
 have s1:=(sw_sy (o:=o) (q:=q) (W:=W) (H:=H) (ps:=ps) m4).same swC_swC h pe eq hs pes (enum_ix eq)
 have s2:=(rf_sy (o:=o) (q:=q) (W:=W) (H:=H) (ps:=ps) m4).same rfC_rfC h pe eq hr per (enum_ix eq)
 have bs:=back_seen h h' pe
 have lw:∀r∈rowsL o q W H ps oth m,WdOk r.wd:=fun r hr=>(KP_wd h eq hr).1
 have lb:∀r∈rowsL q o W H ps one m,WdOk r.wd:=fun r hr=>(KP_wd h' eo hr).1
 have l1:=rows_len h oth q
 have l2:=rows_len h' one o
 have l3:=rows_len hs oth (swP q)
 have l4:=rows_len hr oth (rfP W q)
 have hw:=f_how h' eo
 have so:seenOf (rowsL o q W H ps oth m)=seenC o q W H ps oth m:=rfl
 have sb:seenOf (rowsL q o W H ps one m)=seenC q o W H ps one m:=rfl
 have sl:(seenC o q W H ps oth m).length=(seenC q o W H ps one m).length:=by rw[<-bs,sortC_len,List.length_map]
 have sn:(seenC o q W H ps oth m).length<=41:=by
  unfold seenC
  rw[List.length_map]
  exact Nat.le_trans (List.length_filter_le _ _) l1
 have e1:=sort_ok (l:=(seenC o q W H ps oth m).map bkC) (by rw[List.length_map];lia)
 rw[bs] at e1
 have t3:=sort_rows s1.w s1.nd s1.pw s1.mem (by have:=s1.len;lia)
 have t5:=sort_rows s2.w s2.nd s2.pw s2.mem (by have:=s2.len;lia)
 have n1:=len_of s1.nd s1.pw s1.mem
 have n2:=len_of s2.nd s2.pw s2.mem
 have dl:=dr.len
 have w1:=dr.w1
 have dok:=dr.ok
 generalize ns.map D.int=N at *
 refine(fn1 _ _ _).trans (fin_of (go (asg5 (call_ok (a1 rfl) ed rfl)) (go (set_ok (d:=.int (m:Int)) ((op_ok (call_ok (aC rfl (a1 rfl)) f1 rfl) rfl (gM (by decide))).trans (by rw[em]))) (go (set_ok (call_ok (aC rfl (aC rfl (aC (cb_ok (a1 rfl) rfl) (aC rfl (aC rfl (a1 rfl)))))) fc rfl)) (go (set_ok (call_ok (aC rfl (aC rfl (aC (cb_ok (a1 rfl) rfl) (aC rfl (aC rfl (a1 rfl)))))) fb rfl)) ?_)))))
 refine go (if_skip (tB_b (op_ok (cb_ok (a1 (c_back rfl lw l1)) (by rw[so];exact e1)) (call_ok (a1 rfl) (f_seen lb (by lia)) rfl) ((gNe_b (dep_cD _)).trans (by rw[sb,D.eq_refl];rfl))))) ?_
 refine go (if_skip (tB_b ((op_ok (call_ok (aC rfl (aC rfl (aC (cb_ok (a1 rfl) rfl) (aC rfl (aC rfl (a1 rfl)))))) hw rfl) ((cb_ok (a1 (call_ok (a1 rfl) (f_seen lw (by lia)) rfl)) len_ok).trans (by rw[List.length_map,so,sl])) (gNe_b (by simp[D.dep]))).trans (by rw[D.eq_refl];rfl)))) ?_
 refine go (set_ok (c_lain rfl dl)) (go (set_ok (call_ok (aC rfl (aC rfl (aC rfl (aC rfl (aC rfl (a1 rfl)))))) fs rfl)) ?_)
 refine go (if_skip (tB_b (op_ok (cb_ok (a1 (c_sw rfl l3)) t3) (c_first rfl l1) ((gNe_b (dep_tD lw)).trans (by rw[D.eq_refl];rfl))))) ?_
 refine go (if_skip (tB_b (deq_ok (neg:=true) (a1 (c_swp rfl l3)) (a1 (c_pairs rfl l1)) s1.nd (pw_nd s1.pw) (fun z hz=>(s1.mem z).mp hz) n1 (by have:=s1.len;lia) s1.wh))) ?_
 refine go (set_ok (c_turned (W:=W) (H:=H) rfl w1 dok dl rfl)) (go (set_ok (call_ok (aC rfl (aC rfl (aC rfl (aC rfl (aC rfl (a1 rfl)))))) fr rfl)) ?_)
 refine go (if_skip (tB_b (op_ok (cb_ok (a1 (c_rf rfl l4)) t5) (c_first rfl l1) ((gNe_b (dep_tD lw)).trans (by rw[D.eq_refl];rfl))))) ?_
 exact ret_ok (deq_ok (neg:=false) (a1 (c_rfp rfl l4)) (a1 (c_pairs rfl l1)) s2.nd (pw_nd s2.pw) (fun z hz=>(s2.mem z).mp hz) n2 (by have:=s2.len;lia) s2.wh)
end Law
noncomputable def PySem.W.Fast.tw14649124026028355496 : Nat := 0
noncomputable def PySem.W.Fast.tw1672187748794131760 : Nat := 0
noncomputable def PySem.W.Fast.tw2165605307154683727 : Nat := 0
noncomputable def PySem.W.Fast.tw9484871544301695533 : Nat := 0
noncomputable def PySem.W.Fast.tw11709837999028461811 : Nat := 0
noncomputable def PySem.W.Fast.tw304764631376956044 : Nat := 0
noncomputable def PySem.W.Fast.tw15770928127899107286 : Nat := 0
noncomputable def PySem.W.Fast.tw8252938818726894859 : Nat := 0
noncomputable def PySem.W.Fast.tw2150646445193723537 : Nat := 0
noncomputable def PySem.W.Fast.tw3506763634632788998 : Nat := 0
noncomputable def PySem.W.Fast.tw14214011959124523064 : Nat := 0
noncomputable def PySem.W.Fast.tw17977730228394572610 : Nat := 0
open PySem PySem.W PyProof.Rows
-- LAST
set_option maxRecDepth 100000 in
set_option maxHeartbeats 0 in
theorem PySem.Challenge.cw_selfsight_k31_whole_seen_by_the_other_holds : PySem.Challenge.rw_selfsight_k31_whole_seen_by_the_other.Holds := by
  w_on; o_law; k_head; (case hw => w_witness2)
  k_fill
  refine Law.walk (l := PySem.Challenge.rw_selfsight_k31_whole_seen_by_the_other) rfl rfl Law.law_true (fun w h Y => PySem.W.kIn_of Y) ?F
  case F =>
    intro w mg fa h KX G hmg
    refine' Law.all_mk KX G hmg ?a0 ?l0 ?c0 ?k0 ?a1 ?l1 ?c1 ?k1 ?a2 ?l2 ?c2 ?k2 ?a3 ?l3 ?c3 ?k3 ?a4 ?l4 ?c4 ?k4 ?a5 ?l5 ?c5 ?k5 ?a6 ?l6 ?c6 ?k6 ?a7 ?l7 ?c7 ?k7 ?a8 ?l8 ?c8 ?k8 ?a9 ?l9 ?c9 ?k9 ?a10 ?l10 ?c10 ?k10 ?a11 ?l11 ?c11 ?k11 ?a12 ?l12 ?c12 ?k12 ?a13 ?l13 ?c13 ?k13 ?a14 ?l14 ?c14 ?k14 ?a15 ?l15 ?c15 ?k15 ?a16 ?l16 ?c16 ?k16 ?a17 ?l17 ?c17 ?k17 ?a18 ?l18 ?c18 ?k18 ?a19 ?l19 ?c19 ?k19 ?a20 ?l20 ?c20 ?k20 ?a21 ?l21 ?c21 ?k21 ?a22 ?l22 ?c22 ?k22 ?a23 ?l23 ?c23 ?k23 ?a24 ?l24 ?c24 ?k24 ?a25 ?l25 ?c25 ?k25 ?yg_NO_STEP ?yb_NO_STEP ?z_abs ?z_range ?z_enumerate ?z_len ?z_int ?z_list ?z_sorted ?z_dict
    (case a0 => k_is)
    (case l0 => k_is)
    (case c0 => k_is)
    (case k0 => k_is)
    (case a1 => k_is)
    (case l1 => k_is)
    (case c1 => k_is)
    (case k1 => k_is)
    (case a2 => k_is)
    (case l2 => k_is)
    (case c2 => k_is)
    (case k2 => k_is)
    (case a3 => k_is)
    (case l3 => k_is)
    (case c3 => k_is)
    (case k3 => k_is)
    (case a4 => k_is)
    (case l4 => k_is)
    (case c4 => k_is)
    (case k4 => k_is)
    (case a5 => k_is)
    (case l5 => k_is)
    (case c5 => k_is)
    (case k5 => k_is)
    (case a6 => k_is)
    (case l6 => k_is)
    (case c6 => k_is)
    (case k6 => k_is)
    (case a7 => k_is)
    (case l7 => k_is)
    (case c7 => k_is)
    (case k7 => k_is)
    (case a8 => k_is)
    (case l8 => k_is)
    (case c8 => k_is)
    (case k8 => k_is)
    (case a9 => k_is)
    (case l9 => k_is)
    (case c9 => k_is)
    (case k9 => k_is)
    (case a10 => k_is)
    (case l10 => k_is)
    (case c10 => k_is)
    (case k10 => k_is)
    (case a11 => k_is)
    (case l11 => k_is)
    (case c11 => k_is)
    (case k11 => k_is)
    (case a12 => k_is)
    (case l12 => k_is)
    (case c12 => k_is)
    (case k12 => k_is)
    (case a13 => k_is)
    (case l13 => k_is)
    (case c13 => k_is)
    (case k13 => k_is)
    (case a14 => k_is)
    (case l14 => k_is)
    (case c14 => k_is)
    (case k14 => k_is)
    (case a15 => k_is)
    (case l15 => k_is)
    (case c15 => k_is)
    (case k15 => k_is)
    (case a16 => k_is)
    (case l16 => k_is)
    (case c16 => k_is)
    (case k16 => k_is)
    (case a17 => k_is)
    (case l17 => k_is)
    (case c17 => k_is)
    (case k17 => k_is)
    (case a18 => k_is)
    (case l18 => k_is)
    (case c18 => k_is)
    (case k18 => k_is)
    (case a19 => k_is)
    (case l19 => k_is)
    (case c19 => k_is)
    (case k19 => k_is)
    (case a20 => k_is)
    (case l20 => k_is)
    (case c20 => k_is)
    (case k20 => k_is)
    (case a21 => k_is)
    (case l21 => k_is)
    (case c21 => k_is)
    (case k21 => k_is)
    (case a22 => k_is)
    (case l22 => k_is)
    (case c22 => k_is)
    (case k22 => k_is)
    (case a23 => k_is)
    (case l23 => k_is)
    (case c23 => k_is)
    (case k23 => k_is)
    (case a24 => k_is)
    (case l24 => k_is)
    (case c24 => k_is)
    (case k24 => k_is)
    (case a25 => k_is)
    (case l25 => k_is)
    (case c25 => k_is)
    (case k25 => k_is)
    (case yg_NO_STEP => k_is)
    (case yb_NO_STEP => kernel_rfl)
    (case z_abs => k_is)
    (case z_range => k_is)
    (case z_enumerate => k_is)
    (case z_len => k_is)
    (case z_int => k_is)
    (case z_list => k_is)
    (case z_sorted => k_is)
    (case z_dict => k_is)

