import PyProof.Rows.All
import Wide.All
import OpenK.AllK
import Wide.FinOn
import Lean
import PyProof.EqAt
import PyProof.EqKinds
import PyProof.TupleCall
import PyProof.NeKinds
import PyProof.NsDelKeeps
import PyProof.ExcArgs
import PyProof.ExcAttrAll.ValueError
import PyProof.Rows.SortRunsK
import PyProof.CompUse
import KE.KNestM
import PyProof.Rows.StrClose
import PyProof.Rows.CatFin
import KE.KDictList
import PyProof.Rows.FStr
import PyProof.CallStr
import KE.KIntText
import PyProof.StrWalks
import PyProof.StrBlockH
import PyProof.StrBlockI
import PyProof.StrCalls6
import PyProof.StrCalls5
import PyProof.StrCalls2
import PyProof.AutoSeq1
import PyProof.Rows.Range3
import PyProof.ListRange
import PyProof.TupleOfSeq
import PyProof.CollectIter
import KE.KRevIter
import PyProof.DictFindH
import PyProof.Walk
import PyProof.DictWalks
import PySem.Challenge.RW_selfsight_k53_whole_numbers_by_texts
set_option maxHeartbeats 4000000
set_option linter.all false
set_option maxRecDepth 100000
set_option Elab.async false
namespace L2
open PySem PySem.Spec PyProof.Rows
abbrev Key:=Sum Int Str
def keyIs:Key->Value->Bool
 |.inl k,v=>Value.isInt k v
 |.inr x,v=>Value.isStrOf x v
def keyH (w:World):Key->Int
 |.inl k=>hashInt k
 |.inr x=>hashStr w x
theorem Qs:∀{k:Key} {v:Value},keyIs k v=true->(∃i t,k=Sum.inl i/\v=Value.int i t)\/(∃x t,k=Sum.inr x/\v=Value.str x t)
 |.inl i,v,h=>by
  obtain⟨t,e⟩:=Value.isInt_shape (k:=i) (v:=v) h
  exact .inl ⟨i,t,rfl,e⟩
 |.inr x,v,h=>by
  obtain⟨t,e⟩:=Value.isStrOf_shape (x:=x) (v:=v) h
  exact .inr ⟨x,t,rfl,e⟩
theorem keyIs_int (i:Int)(t:Tok):keyIs (.inl i) (.int i t)=true:=by simp[keyIs,Value.isInt]
theorem keyIs_str (x:Str)(t:Tok):keyIs (.inr x) (.str x t)=true:=by simp[keyIs,Value.isStrOf]
theorem key_ll (a b:Int):decide ((Sum.inl a:Key)=Sum.inl b)=(a==b):=by
 by_cases e:a=b
 ·subst e;simp
 ·have h:¬(Sum.inl a:Key)=Sum.inl b:=fun q=>e (Sum.inl.inj q)
  rw[decide_eq_false h]
  exact(beq_eq_false_iff_ne.mpr e).symm
theorem key_rr (a b:Str):decide ((Sum.inr a:Key)=Sum.inr b)=decide (a=b):=by
 by_cases e:a=b
 ·subst e;simp
 ·have h:¬(Sum.inr a:Key)=Sum.inr b:=fun q=>e (Sum.inr.inj q)
  rw[decide_eq_false h,decide_eq_false e]
theorem key_lr (a:Int)(b:Str):decide ((Sum.inl a:Key)=Sum.inr b)=false:=decide_eq_false (fun q=>nomatch q)
theorem key_rl (a:Str)(b:Int):decide ((Sum.inr a:Key)=Sum.inl b)=false:=decide_eq_false (fun q=>nomatch q)
def Qo (prog:Program)(w:World):PySem.KeyKind prog w Key where
 is:=keyIs
 hash:=keyH w
 inj:=fun v a b ha hb=>by
  rcases Qs ha with⟨i,t,rfl,rfl⟩|⟨x,t,rfl,rfl⟩
  ·rcases Qs hb with⟨j,u,rfl,e⟩|⟨y,u,rfl,e⟩
   ·injection e with e1 _;rw[e1]
   ·exact nomatch e
  ·rcases Qs hb with⟨j,u,rfl,e⟩|⟨y,u,rfl,e⟩
   ·exact nomatch e
   ·injection e with e1 _;rw[e1]
 byValue:=fun k v h=>by
  rcases Qs h with⟨i,t,rfl,rfl⟩|⟨x,t,rfl,rfl⟩<;>rfl
 pyHash:=fun hv h=>by
  rcases Qs hv with⟨i,t,rfl,rfl⟩|⟨x,t,rfl,rfl⟩
  ·exact wpAny_pyHash_int h
  ·exact wpAny_pyHash_str h
 eqBool:=fun hu hv h=>by
  rcases Qs hu with⟨i,t,rfl,rfl⟩|⟨x,t,rfl,rfl⟩
  ·rcases Qs hv with⟨j,u,rfl,rfl⟩|⟨y,u,rfl,rfl⟩
   ·rw[key_ll] at h;exact wpAny_eqBool_int h
   ·rw[key_lr] at h;exact SeqAt.EqAt.int_str i t y u _ _ _ _ h
  ·rcases Qs hv with⟨j,u,rfl,rfl⟩|⟨y,u,rfl,rfl⟩
   ·rw[key_rl] at h;exact SeqAt.EqAt.str_int x t j u _ _ _ _ h
   ·rw[key_rr] at h;exact wpAny_eqBool_str h
 «strs»:=fun k x t v h=>by
  rcases Qs h with⟨i,u,rfl,e⟩|⟨y,u,rfl,e⟩
  ·exact nomatch e
  ·injection e with e1 _
   subst e1
   cases v<;>rfl
theorem mixKind_int (prog:Program)(w:World)(i:Int)(t:Tok):(Qo prog w).is (.inl i) (.int i t)=true:=keyIs_int i t
theorem mixKind_str (prog:Program)(w:World)(x:Str)(t:Tok):(Qo prog w).is (.inr x) (.str x t)=true:=keyIs_str x t
inductive V where
 |non|bl (b:Bool)|int (i:Int)|str (x:Str)|byt (b:Array UInt8)|flt (b:UInt64)|ref (a:Addr)|ty (n:String)
 deriving DecidableEq
def RelV:V->Value->Prop
 |.non,u=>u=Value.none
 |.bl b,u=>u=Value.bool b
 |.int i,u=>∃t,u=Value.int i t
 |.str x,u=>∃t,u=Value.str x t
 |.byt b,u=>∃t,u=Value.bytes b t
 |.flt b,u=>∃t,u=Value.float b t
 |.ref a,u=>u=Value.ref a
 |.ty n,u=>u=Value.type n
abbrev Vals:List V->List Value->Prop:=Paired RelV
theorem Vals.length {xs:List V}{us:List Value}(r:Vals xs us):xs.length=us.length:=Paired.length r
theorem Vals.get:∀{xs:List V} {us:List Value} {i:Nat} {x:V},Vals xs us->xs[i]?=some x->∃u,us[i]?=some u/\RelV x u
 |_,_,_,_,.nil,e=>by simp at e
 |_,_,0,_,.cons r _,e=>by simp at e;subst e;exact⟨_,rfl,r⟩
 |_,_,i+1,x,.cons _ t,e=>by
  obtain⟨u,h1,h2⟩:=Vals.get (i:=i) (x:=x) t (by simpa using e)
  exact⟨u,by simpa using h1,h2⟩
theorem Vals.set {x:V}{u:Value}(r:RelV x u):∀{xs:List V} {us:List Value} (i:Nat),Vals xs us->Vals (xs.set i x) (us.set i u)
 |_,_,_,.nil=>.nil
 |_,_,0,.cons _ t=>.cons r t
 |_,_,i+1,.cons q t=>.cons q (Vals.set r i t)
theorem Vals.append:∀{xs ys:List V} {us ws:List Value},Vals xs us->Vals ys ws->Vals (xs++ys) (us++ws)
 |_,_,_,_,.nil,s=>s
 |_,_,_,_,.cons r t,s=>.cons r (Vals.append t s)
theorem Vals.take:∀{xs:List V} {us:List Value} (n:Nat),Vals xs us->Vals (xs.take n) (us.take n)
 |_,_,0,_=>.nil
 |_,_,_+1,.nil=>.nil
 |_,_,n+1,.cons r t=>.cons r (Vals.take n t)
theorem Vals.drop:∀{xs:List V} {us:List Value} (n:Nat),Vals xs us->Vals (xs.drop n) (us.drop n)
 |_,_,0,r=>r
 |_,_,_+1,.nil=>.nil
 |_,_,n+1,.cons _ t=>Vals.drop n t
theorem Vals.none_of:∀{xs:List V} {us:List Value} {i:Nat},Vals xs us->xs[i]?=none->us[i]?=none:=fun {xs us i} r e=>by
 have h1:=r.length
 have h2:xs.length<=i:=List.getElem?_eq_none_iff.mp e
 exact List.getElem?_eq_none_iff.mpr (by omega)
def RelO:Option V->Option Value->Prop
 |some v,some u=>RelV v u
 |none,none=>True
 |_,_=>False
def KV {κ:Type}:List (κ×V)->List (κ×Value)->Prop:=Paired fun(p:κ×V) (q:κ×Value)=>p.1=q.1/\RelV p.2 q.2
def kV:Key->V
 |.inl i=>.int i
 |.inr x=>.str x
inductive HO where
 |lst (xs:List V)
 |tup (xs:List V)
 |dK (kvs:List (Key×V))|dT (kvs:List (List Key×V))
 |set (S:Int->Bool) (n:Nat)
 |ins (C dx:Addr) (fs:List (Str×V))
 |own (x:Addr)
 |xd (fs:List (Str×V))
 |met (f x:Addr)
 |rng (lo hi:Int)
 |frz (o:Obj) (u:HO)
 |tbl (l c:Value) (q:Str)
 |ext (φ:Heap->Prop)
abbrev Hp:=Addr->Option HO
def upd (H:Hp)(a:Addr)(o:HO):Hp:=fun b=>if b=a then some o else H b
theorem Zn {H:Hp}{a:Addr}{o:HO}:upd H a o a=some o:=by unfold upd;rw[if_pos rfl]
theorem Zj {H:Hp}{a b:Addr}{o:HO}(h:b≠a):upd H a o b=H b:=by unfold upd;rw[if_neg h]
theorem ne_of {H:Hp}{a b:Addr}{o u:HO}(h:H a=some o)(h':H b=some u)(d:o≠u):a≠b:=by
 intro e;subst e;rw[h] at h';exact d (Option.some.inj h')
theorem Zk {H:Hp}{a b:Addr}{o:HO}(h:H a=some o)(h':H b=none):a≠b:=by
 intro e;subst e;rw[h] at h';cases h'
section
variable (P:Program) (w:World)
def ObjOk (H:Hp)(h:Heap)(a:Addr):HO->Prop
 |.lst xs=>xs.length<=sizeLine/\∃(its:List Value) (n:Nat),Vals xs its/\h.get? a=some { cls:=.type "list", data:=.seq its.toArray n }
 |.tup xs=>xs.length<=sizeLine/\∃its:List Value,Vals xs its/\IsTup h a its.toArray
 |.dK kvs=>kvs.length<=sizeLine/\(a==sysModules)=false/\∃vs,KV kvs vs/\h.DictOf (Qo P w) a vs
 |.dT kvs=>kvs.length<=sizeLine/\(a==sysModules)=false/\∃xs:List (List Key×Addr×Value),
   Paired (fun(p:List Key×V) (q:List Key×Addr×Value)=>p.1=q.1/\H q.2.1=some (.tup (p.1.map kV))/\RelV p.2 q.2.2) kvs xs /\
   ∃o es ep,h.get? a=some o/\o.ExactDict/\o.data=.dict es ep/\es.toList=xs.map (entryOfKey (tupleKind (Qo P w)))/\(xs.map (·.1)).Nodup
 |.set S n=>h.SetOf (intKind P w) a S n
 |.ins C dx fs=>H dx=some (.own a)/\fs.length<=1000/\dx≠a/\h.get? a=some (PySem.W.instObj C dx) /\
   ∃mA,h.Ns1 dx mA/\(∀f,RelO (fs.lookup f) (mA f))/\PySem.Within mA (fs.map (·.1))
 |.own _=>∃o,h.get? a=some o
 |.xd fs=>∃mA,h.Ns1 a mA/\∀f,RelO (fs.lookup f) (mA f)
 |.rng lo hi=>∃t u v,h.get? a=some { cls:=.type "range", data:=.fields #[.int lo t,.int hi u,.int 1 v] }
 |.frz o u=>h.get? a=some o/\ObjOk H h a u
 |.tbl l c q=>∃ps:Array Value,h.get? a=some { cls:=.none,data:=.fields ps }/\(ps=#[]\/∃(b:Addr) (ob:Obj) (vs:Array Value) (t:Tok),ps=#[l,c,.ref b]/\H b=some (.frz ob (.own 0))/\ob.data=.fields vs/\vs[1]?=some (.str q t))
 |.met f x=>h.get? a=some (PySem.W.methodObj (.ref f) (.ref x))
 |.ext φ=>φ h/\(∃o,h.get? a=some o)/\∀h1 h2:Heap,φ h1->(∀o,h1.get? a=some o->h2.get? a=some o)->φ h2
def HOk (H:Hp)(h:Heap):Prop:=∀a o,H a=some o->ObjOk P w H h a o
end
section
variable {P:Program} {w:World} {H H':Hp} {h h':Heap} {a:Addr} {o:HO}
theorem ObjOk.lt (x:ObjOk P w H h a o):a<h.objs.size:=by
 cases o with
 |lst xs=>obtain⟨_,_,_,_,e⟩:=x;exact Heap.lt_size e
 |tup xs=>obtain⟨_,_,_,p⟩:=x;exact p.lt
 |dK kvs=>obtain⟨_,_,_,_,o,_,_,e,_⟩:=x;exact Heap.lt_size e
 |dT kvs=>obtain⟨_,_,_,_,o,_,_,e,_⟩:=x;exact Heap.lt_size e
 |set S n=>obtain⟨o,_,_,_,e,_⟩:=x;exact Heap.lt_size e
 |ins C dx fs=>obtain⟨_,_,_,e,_⟩:=x;exact Heap.lt_size e
 |own y=>obtain⟨_,e⟩:=x;exact Heap.lt_size e
 |xd fs=>obtain⟨_,⟨_,_,_,e,_⟩,_⟩:=x;exact Heap.lt_size e
 |rng lo hi=>obtain⟨_,_,_,e⟩:=x;exact Heap.lt_size e
 |frz ob u=>obtain⟨e,_⟩:=x;exact Heap.lt_size e
 |tbl l c q=>obtain⟨_,e,_⟩:=x;exact Heap.lt_size e
 |met f y=>exact Heap.lt_size (show h.get? a=some _ from x)
 |ext φ=>obtain⟨_,⟨_,e⟩,_⟩:=x;exact Heap.lt_size e
theorem Paired.mapP {α β:Type}{F G:α->β->Prop}:∀{l₁:List α} {l₂:List β},Paired F l₁ l₂->(∀a b,F a b->G a b)->Paired G l₁ l₂
 |_,_,.nil,_=>.nil
 |_,_,.cons r t,f=>.cons (f _ _ r) (Paired.mapP t f)
theorem ObjOk.stay (x:ObjOk P w H h a o)(k:∀b u,(b=a\/H b=some (.own a))->h.get? b=some u->h'.get? b=some u)(ho:∀b,H b=some (.own a)->H' b=some (.own a))(ht:∀b xs,H b=some (.tup xs)->H' b=some (.tup xs))(hz:∀b o u,H b=some (.frz o u)->H' b=some (.frz o u)):ObjOk P w H' h' a o:=by
 induction o with
 |lst xs=>obtain⟨z,its,n,r,e⟩:=x;exact⟨z,its,n,r,k _ _ (.inl rfl) e⟩
 |tup xs=>obtain⟨z,its,r,ob,e,c⟩:=x;exact⟨z,its,r,ob,k _ _ (.inl rfl) e,c⟩
 |dK kvs=>obtain⟨z,y,vs,r,ob,es,ep,e,c⟩:=x;exact⟨z,y,vs,r,ob,es,ep,k _ _ (.inl rfl) e,c⟩
 |dT kvs =>
  obtain⟨z,y,xs,r,ob,es,ep,e,c⟩:=x
  exact⟨z,y,xs,Paired.mapP r fun p q z=>⟨z.1,ht _ _ z.2.1,z.2.2⟩,ob,es,ep,k _ _ (.inl rfl) e,c⟩
 |set S n=>obtain⟨ob,es,ep,t,e,c⟩:=x;exact⟨ob,es,ep,t,k _ _ (.inl rfl) e,c⟩
 |ins C dx fs =>
  obtain⟨d,z,ne,e,mA,⟨od,es,ep,e2,c⟩,r⟩:=x
  exact⟨ho _ d,z,ne,k _ _ (.inl rfl) e,mA,⟨od,es,ep,k _ _ (.inr d) e2,c⟩,r⟩
 |own y=>obtain⟨ob,e⟩:=x;exact⟨ob,k _ _ (.inl rfl) e⟩
 |xd fs=>obtain⟨mA,⟨od,es,ep,e,c⟩,r⟩:=x;exact⟨mA,⟨od,es,ep,k _ _ (.inl rfl) e,c⟩,r⟩
 |rng lo hi=>obtain⟨t,u,v,e⟩:=x;exact⟨t,u,v,k _ _ (.inl rfl) e⟩
 |frz ob u ih=>obtain⟨e,q⟩:=x;exact⟨k _ _ (.inl rfl) e,ih q⟩
 |tbl l c q =>
  obtain⟨ps,e,r⟩:=x
  refine⟨ps,k a _ (.inl rfl) e,?_⟩
  rcases r with r|⟨b,ob,vs,t,r1,r2,r3⟩
  ·exact .inl r
  ·exact .inr ⟨b,ob,vs,t,r1,hz _ _ _ r2,r3⟩
 |met f y =>
  have e:h.get? a=some (PySem.W.methodObj (.ref f) (.ref y)):=x
  show h'.get? a=some (PySem.W.methodObj (.ref f) (.ref y))
  exact k a _ (.inl rfl) e
 |ext φ=>obtain⟨p,⟨o,e⟩,st⟩:=x;exact⟨st _ _ p fun o q=>k _ _ (.inl rfl) q,⟨o,k _ _ (.inl rfl) e⟩,st⟩
theorem HOk.lt (x:HOk P w H h)(e:H a=some o):a<h.objs.size:=(x a o e).lt
theorem HOk.fresh (x:HOk P w H h)(e:h.objs.size<=a):H a=none:=by
 cases q:H a with
 |none=>rfl
 |some u=>exact absurd (Nat.lt_of_lt_of_le (x.lt q) e) (Nat.lt_irrefl _)
theorem HOk.kept (x:HOk P w H h)(k:∀b u,h.get? b=some u->h'.get? b=some u):HOk P w H h':=fun a o e =>
 (x a o e).stay (fun b u _ q=>k b u q) (fun _ q=>q) (fun _ _ q=>q) fun _ _ _ q=>q
theorem HOk.laid (x:HOk P w H h)(k:∀b u,h.get? b=some u->h'.get? b=some u)(hp:h.objs.size<=a)(new:ObjOk P w (upd H a o) h' a o):HOk P w (upd H a o) h':=fun b u e=>by
 have hn:=x.fresh hp
 by_cases hb:b=a
 ·subst hb;rw[Zn] at e;cases e;exact new
 ·rw[Zj hb] at e
  exact(x b u e).stay (fun c v _ q=>k c v q) (fun c q=>by rw[Zj (Zk q hn)];exact q) (fun c xs q=>by rw[Zj (Zk q hn)];exact q) fun c _ _ q=>by rw[Zj (Zk q hn)];exact q
end
def Rd (H:Hp)(a:Addr)(u:HO):Prop:=H a=some u\/∃o,H a=some (.frz o u)
theorem Rd.ok {P:Program}{w:World}{H:Hp}{h:Heap}{a:Addr}{u:HO}(r:Rd H a u)(x:HOk P w H h):ObjOk P w H h a u:=by
 rcases r with r|⟨o,r⟩
 ·exact x a u r
 ·obtain⟨_,q⟩:=x a _ r
  exact q
def Mut:Option HO->Prop
 |some (.lst _)=>True
 |some (.dK _)=>True
 |some (.dT _)=>True
 |some (.set _ _)=>True
 |some (.ins _ _ _)=>True
 |some (.ext _)=>True
 |_=>False
section
variable {P:Program} {w:World} {H:Hp} {h h':Heap} {x e:Addr} {o':HO}
theorem HOk.write (ok:HOk P w H h)(mu:Mut (H x))(he:e=x\/H e=some (.own x))(k:∀b u,b≠e->h.get? b=some u->h'.get? b=some u)(heo:∃u,h'.get? e=some u)(new:ObjOk P w (upd H x o') h' x o'):HOk P w (upd H x o') h':=fun b u q=>by
 have nown:∀c y,H c=some (.own y)->c≠x:=fun c y r z=>by subst z;rw[r] at mu;exact mu
 have ntup:∀c xs,H c=some (.tup xs)->c≠x:=fun c xs r z=>by subst z;rw[r] at mu;exact mu
 have nfrz:∀c o u,H c=some (.frz o u)->c≠x:=fun c o u r z=>by subst z;rw[r] at mu;exact mu
 by_cases hb:b=x
 ·subst hb;rw[Zn] at q;cases q;exact new
 ·rw[Zj hb] at q
  by_cases hbe:b=e
  ·have q':H b=some (.own x):=by
    rcases he with z|z
    ·exact absurd (hbe.trans z) hb
    ·rw[hbe];exact z
   rw[q] at q';cases q'
   obtain⟨v,hv⟩:=heo
   exact⟨v,by rw[hbe];exact hv⟩
  ·refine(ok b u q).stay (fun c v hc r=>k c v ?_ r) (fun c r=>by rw[Zj (nown c b r)];exact r) (fun c xs r=>by rw[Zj (ntup c xs r)];exact r) fun c o u r=>by rw[Zj (nfrz c o u r)];exact r
   rcases hc with rfl|hc
   ·exact hbe
   ·rintro rfl
    rcases he with z|z
    ·exact nown c b hc z
    ·rw[hc] at z;cases z;exact hb rfl
end
structure Un (fs ex:List Addr) (H H':Hp) (h h':Heap):Prop where
 keep:∀b o,h.get? b=some o->H b=none->b ∉ fs->b ∉ ex->h'.get? b=some o
 slot:∀b o,h.get? b=some o->H b=none->b∈fs->b ∉ ex->∃sl,h'.get? b=some { o with slots:=sl }
 free:∀b o,h.get? b=some o->H b=none->b ∉ ex->H' b=none
 there:∀b o,h.get? b=some o->b ∉ ex->∃o',h'.get? b=some o'
 tups:∀b xs,H b=some (.tup xs)->H' b=some (.tup xs)
 frzs:∀b o u,H b=some (.frz o u)->H' b=some (.frz o u)
 tbls:∀b l c q,H b=some (.tbl l c q)->H' b=some (.tbl l c q)
section
variable {fs fs' ex ex':List Addr} {H H1 H2:Hp} {h h1 h2 h':Heap} {a x e:Addr} {o:HO}
theorem Un.any (u:Un fs ex H H1 h h1){b:Addr}{ob:Obj}(q:h.get? b=some ob)(n:H b=none)(hx:b ∉ ex):∃sl,h1.get? b=some { ob with slots:=sl }:=by
 by_cases hb:b∈fs
 ·exact u.slot b ob q n hb hx
 ·exact⟨ob.slots,u.keep b ob q n hb hx⟩
theorem Un.kept (k:∀b u,h.get? b=some u->h'.get? b=some u):Un fs ex H H h h' :=
 ⟨fun b ob q _ _ _=>k b ob q,fun b ob q _ _ _=>⟨ob.slots,k b ob q⟩,fun _ _ _ n _=>n,fun b ob q _=>⟨ob,k b ob q⟩,fun _ _ q=>q,fun _ _ _ q=>q,fun _ _ _ _ q=>q⟩
theorem Un.refl:Un fs ex H H h h:=Un.kept fun _ _ q=>q
theorem Un.laid (k:∀b u,h.get? b=some u->h'.get? b=some u)(hp:h.objs.size<=a)(hn:H a=none):Un fs ex H (upd H a o) h h' where
 keep:=fun b u q _ _ _=>k b u q
 slot:=fun b u q _ _ _=>⟨u.slots,k b u q⟩
 free:=fun b u q n _=>by rw[Zj (Nat.ne_of_lt (Nat.lt_of_lt_of_le (Heap.lt_size q) hp))];exact n
 there:=fun b u q _=>⟨u,k b u q⟩
 tups:=fun b xs q=>by rw[Zj (Zk q hn)];exact q
 frzs:=fun b u xs q=>by rw[Zj (Zk q hn)];exact q
 tbls:=fun b l c r q=>by rw[Zj (Zk q hn)];exact q
theorem Un.write (mu:Mut (H x))(he:e=x\/H e=some (.own x))(k:∀b u,b≠e->h.get? b=some u->h'.get? b=some u)(heo:∃u,h'.get? e=some u):Un fs ex H (upd H x o) h h':=by
 have hx:∀b,H b=none->b≠x:=fun b n z=>by subst z;rw[n] at mu;exact mu
 have hb:∀b,H b=none->b≠e:=fun b n z=>by
  subst z
  rcases he with r|r
  ·exact hx b n r
  ·rw[n] at r;cases r
 have hm:∀b u,H b=some u->¬Mut (some u)->b≠x:=fun b u q nm z=>by subst z;rw[q] at mu;exact nm mu
 refine⟨fun b u q n _ _=>k b u (hb b n) q,fun b u q n _ _=>⟨u.slots,k b u (hb b n) q⟩,fun b u q n _=>by rw[Zj (hx b n)];exact n,fun b u q _=>?_,
  fun b xs q=>by rw[Zj (hm b _ q fun z=>z)];exact q,fun b u xs q=>by rw[Zj (hm b _ q fun z=>z)];exact q,fun b l c r q=>by rw[Zj (hm b _ q fun z=>z)];exact q⟩
 by_cases hbe:b=e
 ·subst hbe;exact heo
 ·exact⟨u,k b u hbe q⟩
end
def trk (h:Heap)(H:Hp):List Addr:=(List.range h.objs.size).filter fun a=>(H a).isSome
def hidT (h:Heap)(H:Hp):Heap:=PySem.W.hideAll h (trk h H)
theorem hidT_size (h:Heap)(H:Hp):(hidT h H).objs.size=h.objs.size:=PySem.W.hideAll_size _ _
theorem hidT_get {h:Heap}{H:Hp}{b:Addr}{o:Obj}(e:h.get? b=some o)(n:H b=none):(hidT h H).get? b=some o :=
 PySem.W.hideAll_get _ e fun hm=>by
  have q:(H b).isSome=true:=(List.mem_filter.mp hm).2
  rw[n] at q;simp at q
theorem of_hidT {h:Heap}{H:Hp}{b:Addr}{o:Obj}(e:(hidT h H).get? b=some o):h.get? b=some o/\H b=none:=by
 have e':h.get? b=some o:=PySem.W.of_hideAll (trk h H) e
 refine⟨e',?_⟩
 cases q:H b with
 |none=>rfl
 |some x =>
  have hm:b∈trk h H:=List.mem_filter.mpr ⟨List.mem_range.mpr (Heap.lt_size e'),by simp[q]⟩
  have z:(hidT h H).get? b=none:=PySem.W.hideAll_none (trk h H) hm
  rw[z] at e;cases e
structure Mod (K:PySem.W.Frag) (mg:Str->Option Value) (base:Heap):Prop where
 kin:K.In base
 glob:base.Ns mainGlobals mg
 blt:∃mb,base.Ns builtinsNs mb/\∀x:Str,x ≠ "__name__"->mb x=bootBuiltins x
 nolimit:base.NoLimit
structure Cx where
 prog:Program
 w:World
 K:PySem.W.Frag
 mg:Str->Option Value
 base:Heap
 A:Around
 N:List Str
 s₀:Shared
 H₀:Hp
 env:Env
 outer:List Env
 stack:List Env
 ex:List Addr
 fn:Str->Bool
 calm:Bool
 pn:List (Addr×Obj)
 xe:Value->Shared->Prop
def frs (l:List Env):List Addr:=l.filterMap (·.frame)
abbrev Cx.fs (X:Cx):List Addr:=frs X.outer
def Vis (sc:Scope)(x:Str):Prop:=sc.names.lookup x=some .local\/sc.names.lookup x=some .cell\/sc.names.lookup x=some .free
def Loc (sc:Scope)(x:Str):Prop:=sc.names.lookup x=some .local\/sc.names.lookup x=some .cell
def Look (env:Env)(h:Heap)(m:Str->Option Value)(x:Str)(u:Value):Prop :=
 (env.kindOf x=some .local/\m x=some u)\/((env.kindOf x=some .cell\/env.kindOf x=some .free)/\∃c,env.cells.lookup x=some c/\h.IsCell c (some u))
structure Cx.Ok (X:Cx):Prop where
 mod:Mod X.K X.mg X.base
 kind:X.env.scope.kind=.function
 glob:X.env.globals=mainGlobals
 blt:X.env.builtins=builtinsNs
 above:X.s₀.heap.objs.size<=X.env.locals
 inj:∀x y c,X.env.cells.lookup x=some c->X.env.cells.lookup y=some c->x=y
 has:∀x,(X.env.kindOf x=some .cell\/X.env.kindOf x=some .free)->∃c,X.env.cells.lookup x=some c
 cab:∀x c,X.fn x=true->X.env.cells.lookup x=some c->X.s₀.heap.objs.size<=c
 hd:X.calm=true->X.A.handled=none
 frames:X.A.frames=some X.stack
 stk:X.stack=X.outer\/(X.stack=X.env::X.outer/\X.env.frame=some X.env.locals)
 exf:∀b∈X.ex,b≠X.env.locals/\∀x c,X.env.cells.lookup x=some c->c≠b
 bs:∀b o,X.base.get? b=some o->X.s₀.heap.get? b=some o/\X.H₀ b=none
 bsz:X.base.objs.size<=X.s₀.heap.objs.size
 noex:∀b o,X.base.get? b=some o->b ∉ X.ex
 exfs:∀b∈X.ex,b ∉ X.fs
 funs:X.s₀.heap.FunFrames X.base X.outer
 frf:∀b∈X.fs,X.H₀ b=none
structure Inv (X:Cx) (pins:List (Addr×Obj)) (σ:List (Option V)) (H:Hp) (s:Shared):Prop where
 ok:X.Ok
 os:s.os=X.s₀.os
 bare:AllBare s.gens
 base:Un X.fs X.ex X.H₀ H X.s₀.heap s.heap
 loc:∃m,s.heap.Ns X.env.locals m/\∀(i:Nat) (x:Str) (v:V),X.N[i]?=some x->σ[i]?=some (some v)->Vis X.env.scope x->∃u,RelV v u/\Look X.env s.heap m x u
 cell:∀x c,X.env.cells.lookup x=some c->∃v,s.heap.IsCell c v
 free:H X.env.locals=none
 freeC:∀x c,X.env.cells.lookup x=some c->H c=none
 pin:∀p∈X.pn++pins,s.heap.get? p.1=some p.2/\H p.1=none/\p.1≠X.env.locals/\p.1 ∉ X.fs/\∀v,p.2.data≠.cell v
 hok:HOk X.prog X.w H s.heap
 len:σ.length=X.N.length
section
variable {X:Cx} {pins:List (Addr×Obj)} {σ:List (Option V)} {H H':Hp} {s:Shared} {h':Heap}
theorem Cx.Ok.nofr (ok:X.Ok){b:Addr}{o:Obj}(e:X.base.get? b=some o):b ∉ X.fs:=fun hb=>by
 have:=(ok.funs.mem hb).1
 rw[e] at this;cases this
theorem Inv.bs (I:Inv X pins σ H s):∀b o,X.base.get? b=some o->s.heap.get? b=some o/\H b=none:=fun b o e =>
 ⟨I.base.keep b o (I.ok.bs b o e).1 (I.ok.bs b o e).2 (I.ok.nofr e) (I.ok.noex b o e),I.base.free b o (I.ok.bs b o e).1 (I.ok.bs b o e).2 (I.ok.noex b o e)⟩
theorem Inv.bk (I:Inv X pins σ H s):∀b o,X.base.get? b=some o->s.heap.get? b=some o:=fun b o e=>(I.bs b o e).1
theorem Inv.mod (I:Inv X pins σ H s):Mod X.K X.mg X.base:=I.ok.mod
theorem Inv.kIn (I:Inv X pins σ H s):X.K.In s.heap:=I.ok.mod.kin.keeps I.bk
theorem Inv.lt (I:Inv X pins σ H s):X.env.locals<s.heap.objs.size:=let ⟨_,hn,_⟩:=I.loc;hn.lt
theorem Inv.sz (I:Inv X pins σ H s):X.s₀.heap.objs.size<=s.heap.objs.size:=Nat.le_trans I.ok.above (Nat.le_of_lt I.lt)
theorem Inv.nofs (I:Inv X pins σ H s){a:Addr}(h:s.heap.objs.size<=a):a ∉ X.fs:=fun hb=>by
 obtain⟨_,o,ho,_⟩:=I.ok.funs.mem hb
 exact absurd (Nat.lt_of_lt_of_le (Heap.lt_size ho) (Nat.le_trans I.sz h)) (Nat.lt_irrefl _)
theorem Inv.cne (I:Inv X pins σ H s):∀x c,X.env.cells.lookup x=some c->c≠X.env.locals:=fun x c e z=>by
 obtain⟨v,o,ho,hd⟩:=I.cell x c e
 obtain⟨m,⟨o',es,ep,ho',hd',_⟩,_⟩:=I.loc
 rw[z,ho'] at ho;cases ho;rw[hd'] at hd;cases hd
theorem Inv.funs (I:Inv X pins σ H s):s.heap.FunFrames X.base X.outer:=by
 have all:∀(l:List Env),(∀b∈frs l,b∈X.fs)->X.s₀.heap.FunFrames X.base l->s.heap.FunFrames X.base l:=by
  intro l
  induction l with
  |nil=>intro _ _;trivial
  |cons env r ih =>
   intro hs hl
   obtain⟨hk,⟨L,o,hf,hn,ho,hd⟩,hr⟩:=hl
   have hL:L∈X.fs:=hs L (by unfold frs;rw[List.filterMap_cons,hf];exact List.mem_cons_self)
   obtain⟨sl,e⟩:=I.base.slot L o ho (I.ok.frf L hL) hL fun z=>I.ok.exfs L z hL
   exact⟨hk,⟨L,_,hf,hn,e,hd⟩,ih (fun b hb=>hs b (by unfold frs;rw[List.filterMap_cons,hf];exact List.mem_cons_of_mem _ hb)) hr⟩
 exact all X.outer (fun _ hb=>hb) I.ok.funs
theorem Inv.stack (I:Inv X pins σ H s):s.heap.FunFrames X.base X.stack:=by
 rcases I.ok.stk with e|⟨e,hf⟩
 ·rw[e];exact I.funs
 ·rw[e]
  obtain⟨m,hn,_⟩:=I.loc
  refine .cons (by rw[I.ok.kind];decide) hf hn ?_ I.funs
  exact Heap.get?_none_of_le (Nat.le_trans I.ok.bsz I.ok.above)
theorem Inv.stkSub (I:Inv X pins σ H s):∀b∈frs X.stack,b∈X.env.locals::X.fs:=fun b hb=>by
 rcases I.ok.stk with e|⟨e,hf⟩
 ·rw[e] at hb;exact List.mem_cons_of_mem _ hb
 ·rw[e] at hb
  unfold frs at hb
  rw[List.filterMap_cons,hf] at hb
  exact hb
theorem Inv.stkFree (I:Inv X pins σ H s):∀b∈frs X.stack,H b=none:=fun b hb=>by
 rcases List.mem_cons.mp (I.stkSub b hb) with e|hb
 ·rw[e];exact I.free
 ·obtain⟨_,o,ho,_⟩:=I.ok.funs.mem hb
  exact I.base.free b o ho (I.ok.frf b hb) fun z=>I.ok.exfs b z hb
theorem Inv.step {g':Array GenState}{t':Nat}{d':Drawn}{ch:List Addr}(I:Inv X pins σ H s)(hch:∀b∈ch,(b∈X.ex\/X.s₀.heap.objs.size<=b)/\b≠X.env.locals/\(∀x c,X.env.cells.lookup x=some c->c≠b)/\∀p∈X.pn++pins,p.1≠b)(keep:∀b o,b≠X.env.locals->b ∉ X.fs->b ∉ ch->s.heap.get? b=some o->H b=none->h'.get? b=some o)(slot:∀b o,b≠X.env.locals->b∈X.fs->b ∉ ch->s.heap.get? b=some o->H b=none->∃sl,h'.get? b=some { o with slots:=sl })(free:∀b o,b ∉ ch->s.heap.get? b=some o->H b=none->H' b=none)(there:∀b o,b ∉ ch->s.heap.get? b=some o->∃o',h'.get? b=some o')(tups:∀b xs,H b=some (.tup xs)->H' b=some (.tup xs))(frzs:∀b o u,H b=some (.frz o u)->H' b=some (.frz o u))(tbls:∀b l c q,H b=some (.tbl l c q)->H' b=some (.tbl l c q))(ns:∀m,s.heap.Ns X.env.locals m->h'.Ns X.env.locals m)(hok:HOk X.prog X.w H' h')(hg:AllBare g') :
  Inv X pins σ H' { s with heap:=h',gens:=g',drawn:=d',toks:=t' }:=by
 have neL:∀b o,X.s₀.heap.get? b=some o->b≠X.env.locals:=fun b o e=>Nat.ne_of_lt (Nat.lt_of_lt_of_le (Heap.lt_size e) I.ok.above)
 have neC:∀b o,X.s₀.heap.get? b=some o->b ∉ X.ex->b ∉ ch:=fun b o e hx hb=>by
  rcases(hch b hb).1 with z|z
  ·exact hx z
  ·exact absurd (Nat.lt_of_lt_of_le (Heap.lt_size e) z) (Nat.lt_irrefl _)
 have cellK:∀x c,X.env.cells.lookup x=some c->∀v,s.heap.IsCell c v->h'.IsCell c v:=fun x c e v ⟨o,ho,hd⟩=>by
  have nch:c ∉ ch:=fun z=>(hch c z).2.2.1 x c e rfl
  by_cases hc:c∈X.fs
  ·obtain⟨sl,q⟩:=slot c o (I.cne x c e) hc nch ho (I.freeC x c e)
   exact⟨_,q,hd⟩
  ·exact⟨o,keep c o (I.cne x c e) hc nch ho (I.freeC x c e),hd⟩
 refine⟨I.ok,I.os,hg,⟨fun b o e n hb hx=>?_,fun b o e n hb hx=>?_,fun b o e n hx=>?_,fun b o e hx=>?_,fun b xs e=>tups b xs (I.base.tups b xs e),fun b o xs e=>frzs b o xs (I.base.frzs b o xs e),fun b l c q e=>tbls b l c q (I.base.tbls b l c q e)⟩,?_,fun x c e=>?_,?_,fun x c e=>?_,fun p hp=>?_,hok,I.len⟩
 ·exact keep b o (neL b o e) hb (neC b o e hx) (I.base.keep b o e n hb hx) (I.base.free b o e n hx)
 ·obtain⟨sl,e1⟩:=I.base.slot b o e n hb hx
  obtain⟨sl',e2⟩:=slot b _ (neL b o e) hb (neC b o e hx) e1 (I.base.free b o e n hx)
  exact⟨sl',e2⟩
 ·obtain⟨o',e1⟩:=I.base.there b o e hx
  exact free b o' (neC b o e hx) e1 (I.base.free b o e n hx)
 ·obtain⟨o',e1⟩:=I.base.there b o e hx
  exact there b o' (neC b o e hx) e1
 ·obtain⟨m,hn,hl⟩:=I.loc
  refine⟨m,ns m hn,fun i x v e1 e2 e3=>?_⟩
  obtain⟨u,r,l⟩:=hl i x v e1 e2 e3
  refine⟨u,r,?_⟩
  rcases l with l|⟨k,c,e,z⟩
  ·exact .inl l
  ·exact .inr ⟨k,c,e,cellK x c e _ z⟩
 ·obtain⟨v,z⟩:=I.cell x c e
  exact⟨v,cellK x c e v z⟩
 ·obtain⟨m,⟨o,_,_,ho,_⟩,_⟩:=I.loc
  exact free _ o (fun z=>(hch _ z).2.1 rfl) ho I.free
 ·obtain⟨v,o,ho,hd⟩:=I.cell x c e
  exact free c o (fun z=>(hch c z).2.2.1 x c e rfl) ho (I.freeC x c e)
 ·obtain⟨e,n,ne,nf,d⟩:=I.pin p hp
  have nch:p.1 ∉ ch:=fun z=>(hch p.1 z).2.2.2 p hp rfl
  exact⟨keep p.1 p.2 ne nf nch e n,free p.1 p.2 nch e n,ne,nf,d⟩
theorem Inv.un {t':Nat}(I:Inv X pins σ H s)(u:Un X.fs [] H H' s.heap h')(hok:HOk X.prog X.w H' h'):Inv X pins σ H' { s with heap:=h',toks:=t' }:=by
 obtain⟨m,⟨o,es,ep,ho,r⟩,_⟩:=id I.loc
 obtain⟨sl,hL⟩:=u.any ho I.free (by simp)
 exact I.step (g':=s.gens) (d':=s.drawn) (ch:=[]) (fun _ z=>nomatch z) (fun b o _ hb _ e n=>u.keep b o e n hb (by simp)) (fun b o _ hb _ e n=>u.slot b o e n hb (by simp)) (fun b o _ e n=>u.free b o e n (by simp)) (fun b o _ e=>u.there b o e (by simp)) u.tups u.frzs u.tbls (fun m' hm=>by
  obtain⟨o',es',ep',ho',r'⟩:=hm
  rw[ho] at ho';cases ho'
  exact⟨_,es',ep',hL,r'⟩) hok I.bare
theorem Inv.call {g':Array GenState}{t':Nat}{d':Drawn}{ch:List Addr}(I:Inv X pins σ H s)(u:Un (frs X.stack) ch H H' s.heap h')(hok:HOk X.prog X.w H' h')(hg:AllBare g')(hch:∀b∈ch,(b∈X.ex\/X.s₀.heap.objs.size<=b)/\b≠X.env.locals/\(∀x c,X.env.cells.lookup x=some c->c≠b)/\∀p∈X.pn++pins,p.1≠b) :
  Inv X pins σ H' { s with heap:=h',gens:=g',drawn:=d',toks:=t' }:=by
 obtain⟨m,⟨o,es,ep,ho,r⟩,_⟩:=id I.loc
 obtain⟨sl,hL⟩:=u.any ho I.free fun z=>(hch _ z).2.1 rfl
 exact I.step (ch:=ch) hch (fun b o hL hb hc e n=>u.keep b o e n (fun z=>(List.mem_cons.mp (I.stkSub b z)).elim hL hb) hc) (fun b o _ _ hc e n=>u.any e n hc) (fun b o hc e n=>u.free b o e n hc) (fun b o hc e=>u.there b o e hc) u.tups u.frzs u.tbls (fun m' hm=>by
  obtain⟨o',es',ep',ho',r'⟩:=hm
  rw[ho] at ho';cases ho'
  exact⟨_,es',ep',hL,r'⟩) hok hg
theorem Inv.turned {t':Nat}{it:Addr}(I:Inv X pins σ H s)(k:∀b o,b≠it->s.heap.get? b=some o->h'.get? b=some o)(hn:H it=none)(hL:it≠X.env.locals)(h1:it∈X.ex\/X.s₀.heap.objs.size<=it)(h2:∀x c,X.env.cells.lookup x=some c->c≠it)(h3:∀p∈X.pn++pins,p.1≠it):Inv X pins σ H { s with heap:=h',toks:=t' }:=by
 have nit:∀b u,H b=some u->b≠it:=fun b u e z=>by rw[z,hn] at e;cases e
 refine I.step (g':=s.gens) (d':=s.drawn) (ch:=[it]) (fun b hb=>?_) (fun b o _ _ hc e _=>k b o (fun z=>hc (by simp[z])) e) (fun b o _ _ hc e _=>⟨o.slots,k b o (fun z=>hc (by simp[z])) e⟩) (fun _ _ _ _ n=>n)
  (fun b o hc e=>⟨o,k b o (fun z=>hc (by simp[z])) e⟩) (fun _ _ e=>e) (fun _ _ _ e=>e) (fun _ _ _ _ e=>e) (fun m hm=>?_) (fun b u e=>?_) I.bare
 ·have e:b=it:=by simpa using hb
  subst e
  exact⟨h1,hL,h2,h3⟩
 ·obtain⟨o,es,ep,ho,r⟩:=hm
  exact⟨o,es,ep,k _ o (Ne.symm hL) ho,r⟩
 ·refine(I.hok b u e).stay (fun c v hc q=>k c v ?_ q) (fun _ q=>q) (fun _ _ q=>q) fun _ _ _ q=>q
  rcases hc with z|z
  ·rw[z];exact nit b u e
  ·exact nit c _ z
theorem Inv.tok (I:Inv X pins σ H s)(t:Nat):Inv X pins σ H { s with toks:=t }:=I.un (h':=s.heap) (t':=t) Un.refl I.hok
theorem Inv.kept {t':Nat}(I:Inv X pins σ H s)(k:∀b u,s.heap.get? b=some u->h'.get? b=some u):Inv X pins σ H { s with heap:=h',toks:=t' }:=I.un (Un.kept k) (I.hok.kept k)
theorem Inv.laid {a:Addr}{o:HO}{t':Nat}(I:Inv X pins σ H s)(k:∀b u,s.heap.get? b=some u->h'.get? b=some u)(hp:s.heap.objs.size<=a)(new:ObjOk X.prog X.w (upd H a o) h' a o) :
  Inv X pins σ (upd H a o) { s with heap:=h',toks:=t' }:=I.un (Un.laid k hp (I.hok.fresh hp)) (I.hok.laid k hp new)
theorem Inv.write {x e:Addr}{o:HO}{t':Nat}(I:Inv X pins σ H s)(mu:Mut (H x))(he:e=x\/H e=some (.own x))(k:∀b u,b≠e->s.heap.get? b=some u->h'.get? b=some u)(heo:∃u,h'.get? e=some u)(new:ObjOk X.prog X.w (upd H x o) h' x o):Inv X pins σ (upd H x o) { s with heap:=h',toks:=t' }:=I.un (Un.write mu he k heo) (I.hok.write mu he k heo new)
theorem Inv.pins_of {pins':List (Addr×Obj)}(I:Inv X pins σ H s)(h:∀p∈pins',s.heap.get? p.1=some p.2/\H p.1=none/\p.1≠X.env.locals/\p.1 ∉ X.fs/\∀v,p.2.data≠.cell v):Inv X pins' σ H s :=
 ⟨I.ok,I.os,I.bare,I.base,I.loc,I.cell,I.free,I.freeC,fun p hp=>(List.mem_append.mp hp).elim (fun z=>I.pin p (List.mem_append_left _ z)) (h p),I.hok,I.len⟩
theorem nodup_ix {N:List Str}(hN:N.Nodup){i j:Nat}{x:Str}(a:N[i]?=some x)(b:N[j]?=some x):i=j:=by
 obtain⟨h1,e1⟩:=List.getElem?_eq_some_iff.mp a
 obtain⟨h2,e2⟩:=List.getElem?_eq_some_iff.mp b
 exact(List.getElem_inj hN).mp (e1.trans e2.symm)
theorem store_ok2 {M:Model}{A:Around}{E:Value->Shared->Prop}{i:Nat}{x:Str}{v:V}{u:Value}{Q:Unit->Shared->Prop}(I:Inv X pins σ H s)(hN:X.N.Nodup)(hi:X.N[i]?=some x)(hx:Loc X.env.scope x)(r:RelV v u)(h:∀s',Inv X pins (σ.set i (some v)) H s'->(∃a,Heap.SameBut a s.heap s'.heap/\(a=X.env.locals\/X.env.cells.lookup x=some a))->Q () s')(hf:X.fn x=true\/X.env.scope.names.lookup x=some .local:=by first|exact .inl rfl|exact .inr rfl|assumption):wpAny M A (storeName X.env x u) Q E s:=by
 obtain⟨m,hn,hl⟩:=id I.loc
 have hcls:(X.env.scope.kind==.class||(X.env.scope.kind==.module&&X.env.locals != X.env.globals))=false:=by rw[I.ok.kind];rfl
 have hiσ:i<σ.length:=by rw[I.len];exact(List.getElem?_eq_some_iff.mp hi).1
 have cne:=I.cne
 have tracked:∀{a:Addr} {h':Heap},(∃o,s.heap.get? a=some o/\H a=none)->Heap.SameBut a s.heap h'->HOk X.prog X.w H h':=fun {a h'} ha hs b ob e=>by
  obtain⟨_,_,hfree⟩:=ha
  refine(I.hok b ob e).stay (fun c w' hc q=>(hs.2 c ?_).trans q) (fun _ q=>q) (fun _ _ q=>q) fun _ _ _ q=>q
  rintro rfl
  rcases hc with rfl|hc
  ·rw[hfree] at e;cases e
  ·rw[hfree] at hc;cases hc
 rcases hx with hk|hk
 ·refine wpAny_storeName_local hk hn (fun h' hn' hs=>?_) hcls
  obtain⟨oL,_,_,hoL,_⟩:=id hn
  refine h _ ⟨I.ok,I.os,I.bare,⟨fun b o e n hb hx=>?_,fun b o e n hb hx=>?_,I.base.free,fun b o e hx=>?_,I.base.tups,I.base.frzs,I.base.tbls⟩,⟨_,hn',fun j y v' e1 e2 e3=>?_⟩,fun y c e=>?_,I.free,I.freeC,fun p hp=>?_,tracked ⟨oL,hoL,I.free⟩ hs,by simpa using I.len⟩ ⟨_,hs,.inl rfl⟩
  ·exact(hs.2 b (Nat.ne_of_lt (Nat.lt_of_lt_of_le (Heap.lt_size e) I.ok.above))).trans (I.base.keep b o e n hb hx)
  ·obtain⟨sl,e1⟩:=I.base.slot b o e n hb hx
   exact⟨sl,(hs.2 b (Nat.ne_of_lt (Nat.lt_of_lt_of_le (Heap.lt_size e) I.ok.above))).trans e1⟩
  ·obtain⟨o',e1⟩:=I.base.there b o e hx
   exact⟨o',(hs.2 b (Nat.ne_of_lt (Nat.lt_of_lt_of_le (Heap.lt_size e) I.ok.above))).trans e1⟩
  ·by_cases hj:j=i
   ·subst hj
    rw[hi] at e1;cases e1
    rw[List.getElem?_set_self hiσ] at e2
    cases e2
    exact⟨u,r,.inl ⟨hk,by simp⟩⟩
   ·rw[List.getElem?_set_ne (Ne.symm hj)] at e2
    obtain⟨u',r',q⟩:=hl j y v' e1 e2 e3
    refine⟨u',r',?_⟩
    rcases q with⟨k,e⟩|⟨k,c,e,z⟩
    ·refine .inl ⟨k,?_⟩
     have:y≠x:=fun e=>hj (nodup_ix hN e1 (e▸hi))
     simp[this,e]
    ·exact .inr ⟨k,c,e,z.sameBut hs (cne y c e)⟩
  ·obtain⟨w',z⟩:=I.cell y c e
   exact⟨w',z.sameBut hs (cne y c e)⟩
  ·obtain⟨e,n,ne,nf,d⟩:=I.pin p hp
   exact⟨(hs.2 p.1 ne).trans e,n,ne,nf,d⟩
 ·have hfn:X.fn x=true:=by
   rcases hf with z|z
   ·exact z
   ·rw[z] at hk;cases hk
  obtain⟨c,hc⟩:=I.ok.has x (.inl hk)
  obtain⟨w',z⟩:=I.cell x c hc
  refine wpAny_storeName_cell I.ok.kind hk hc z (fun h' hc' hs=>?_)
  obtain⟨oc,hoc,hocd⟩:=id z
  refine h { s with heap:=h' } ⟨I.ok,I.os,I.bare,⟨fun b o e n hb hx=>?_,fun b o e n hb hx=>?_,I.base.free,fun b o e hx=>?_,I.base.tups,I.base.frzs,I.base.tbls⟩,⟨m,hn.sameBut hs (Ne.symm (cne x c hc)),fun j y v' e1 e2 e3=>?_⟩,fun y c' e=>?_,I.free,I.freeC,fun p hp=>?_,tracked ⟨oc,hoc,I.freeC x c hc⟩ hs,by simpa using I.len⟩ ⟨c,hs,.inr hc⟩
  ·exact(hs.2 b (Nat.ne_of_lt (Nat.lt_of_lt_of_le (Heap.lt_size e) (I.ok.cab x c hfn hc)))).trans (I.base.keep b o e n hb hx)
  ·obtain⟨sl,e1⟩:=I.base.slot b o e n hb hx
   exact⟨sl,(hs.2 b (Nat.ne_of_lt (Nat.lt_of_lt_of_le (Heap.lt_size e) (I.ok.cab x c hfn hc)))).trans e1⟩
  ·obtain⟨o',e1⟩:=I.base.there b o e hx
   exact⟨o',(hs.2 b (Nat.ne_of_lt (Nat.lt_of_lt_of_le (Heap.lt_size e) (I.ok.cab x c hfn hc)))).trans e1⟩
  ·by_cases hj:j=i
   ·subst hj
    rw[hi] at e1;cases e1
    rw[List.getElem?_set_self hiσ] at e2
    cases e2
    exact⟨u,r,.inr ⟨.inl hk,c,hc,hc'⟩⟩
   ·rw[List.getElem?_set_ne (Ne.symm hj)] at e2
    obtain⟨u',r',q⟩:=hl j y v' e1 e2 e3
    refine⟨u',r',?_⟩
    rcases q with q|⟨k,c',e,z'⟩
    ·exact .inl q
    ·refine .inr ⟨k,c',e,z'.sameBut hs ?_⟩
     rintro rfl
     exact hj (nodup_ix hN e1 (I.ok.inj _ _ _ e hc▸hi))
  ·by_cases hcc:c'=c
   ·subst hcc;exact⟨_,hc'⟩
   ·obtain⟨w2,z2⟩:=I.cell y c' e
    exact⟨w2,z2.sameBut hs hcc⟩
  ·obtain⟨e,n,ne,nf,d⟩:=I.pin p hp
   refine⟨(hs.2 p.1 ?_).trans e,n,ne,nf,d⟩
   intro q
   rw[q,hoc] at e
   have q':oc=p.2:=Option.some.inj e
   exact d w' (by rw[<-q'];exact hocd)
theorem store_ok {M:Model}{A:Around}{E:Value->Shared->Prop}{i:Nat}{x:Str}{v:V}{u:Value}{Q:Unit->Shared->Prop}(I:Inv X pins σ H s)(hN:X.N.Nodup)(hi:X.N[i]?=some x)(hx:Loc X.env.scope x)(r:RelV v u)(h:∀s',Inv X pins (σ.set i (some v)) H s'->Q () s')(hf:X.fn x=true\/X.env.scope.names.lookup x=some .local:=by first|exact .inl rfl|exact .inr rfl|assumption):wpAny M A (storeName X.env x u) Q E s :=
 store_ok2 I hN hi hx r (fun s' I' _=>h s' I') hf
theorem Inv.call' {s':Shared}{ch:List Addr}(I:Inv X pins σ H s)(ho:s'.os=s.os)(u:Un (frs X.stack) ch H H' s.heap s'.heap)(hok:HOk X.prog X.w H' s'.heap)(hg:AllBare s'.gens)(hch:∀b∈ch,(b∈X.ex\/X.s₀.heap.objs.size<=b)/\b≠X.env.locals/\(∀x c,X.env.cells.lookup x=some c->c≠b)/\∀p∈X.pn++pins,p.1≠b):Inv X pins σ H' s':=by
 obtain⟨h',g',d',t',o'⟩:=s'
 have e:o'=s.os:=ho
 subst e
 exact I.call (g':=g') (t':=t') (d':=d') u hok hg hch
end
abbrev XK:=Value->Option Addr->Hp->Prop
abbrev St:=List (Option V)
abbrev VK:=V->Hp->Prop
abbrev TE:=St->Hp->VK->Prop
abbrev TT:=St->Hp->(Bool->Hp->Prop)->Prop
abbrev TA:=St->Hp->(List V->Hp->Prop)->Prop
structure Ends where
 nx:St->Hp->Prop
 rt:VK
 bk:St->Hp->Prop:=fun _ _=>False
 ct:St->Hp->Prop:=fun _ _=>False
abbrev TS:=Ends->St->Hp->Prop
def EP (X:Cx)(pins:List (Addr×Obj))(σ:St)(Q:VK)(u:Value)(s':Shared):Prop:=∃v H',Inv X pins σ H' s'/\RelV v u/\Q v H'
def TP (X:Cx)(pins:List (Addr×Obj))(σ:St)(Q:Bool->Hp->Prop)(b:Bool)(s':Shared):Prop:=∃H',Inv X pins σ H' s'/\Q b H'
def AP (X:Cx)(pins:List (Addr×Obj))(σ:St)(Q:List V->Hp->Prop)(us:List Value)(s':Shared):Prop:=∃vs H',Inv X pins σ H' s'/\Vals vs us/\Q vs H'
def SP (X:Cx)(pins:List (Addr×Obj))(D:Ends)(f:Flow)(s':Shared):Prop :=
 match f with
 |.next=>∃σ' H',Inv X pins σ' H' s'/\D.nx σ' H'
 |.brk=>∃σ' H',Inv X pins σ' H' s'/\D.bk σ' H'
 |.cont=>∃σ' H',Inv X pins σ' H' s'/\D.ct σ' H'
 |.ret u=>∃v σ' H',Inv X pins σ' H' s'/\RelV v u/\D.rt v H'
def PE (X:Cx)(e:Expr)(t:TE):Prop :=
 ∀(pins:List (Addr×Obj)) (s:Shared) (σ:St) (H:Hp) (Q:VK),Inv X pins σ H s->t σ H Q->wpAny (model X.prog X.w) X.A (eval e X.env) (EP X pins σ Q) X.xe s
def PT (X:Cx)(e:Expr)(t:TT):Prop :=
 ∀(pins:List (Addr×Obj)) (s:Shared) (σ:St) (H:Hp) (Q:Bool->Hp->Prop),Inv X pins σ H s->t σ H Q->wpAny (model X.prog X.w) X.A (isTrue e X.env (eval e X.env)) (TP X pins σ Q) X.xe s
def PW (X:Cx)(e:Expr)(t:TT):Prop :=
 ∀(whole:Sem Value) (pins:List (Addr×Obj)) (s:Shared) (σ:St) (H:Hp) (Q:Bool->Hp->Prop),Inv X pins σ H s->t σ H Q->wpAny (model X.prog X.w) X.A (isTrue e X.env whole) (TP X pins σ Q) X.xe s
theorem PW.pt {X:Cx}{e:Expr}{t:TT}(h:PW X e t):PT X e t:=h _
def PA (X:Cx)(es:List Expr)(t:TA):Prop :=
 ∀(pos:Pos) (pins:List (Addr×Obj)) (s:Shared) (σ:St) (H:Hp) (Q:List V->Hp->Prop),Inv X pins σ H s->t σ H Q->wpAny (model X.prog X.w) X.A (spliced (backTo pos (starEach es X.env))) (AP X pins σ Q) X.xe s
def PS (X:Cx)(st:Stmt)(t:TS):Prop :=
 ∀(pins:List (Addr×Obj)) (s:Shared) (σ:St) (H:Hp) (D:Ends),Inv X pins σ H s->t D σ H->wpAny (model X.prog X.w) X.A (exec st X.env) (SP X pins D) X.xe s
def PSs (X:Cx)(st:List Stmt)(t:TS):Prop :=
 ∀(pins:List (Addr×Obj)) (s:Shared) (σ:St) (H:Hp) (D:Ends),Inv X pins σ H s->t D σ H->wpAny (model X.prog X.w) X.A (execs st X.env) (SP X pins D) X.xe s
theorem thn {α:Type}{t:Sem α}{Q Q':α->Shared->Prop}{M:Model}{A:Around}{E:Value->Shared->Prop}{s:Shared}(h:wpAny M A t Q E s)(hQ:∀a s,Q a s->Q' a s):wpAny M A t Q' E s:=wpAny_mono h hQ fun _ _ x=>x
section
variable {X:Cx}
def tVar (i:Nat):TE:=fun σ H Q=>∃v,σ[i]?=some (some v)/\Q v H
def tC (v:V):TE:=fun _ H Q=>Q v H
theorem Z8 {i:Nat}{x:Str}{pos:Pos}(hN:X.N[i]?=some x)(hv:Vis X.env.scope x) (hd:(x==("__debug__" : Str))=false:=by decide) (hcd:(x==("__classdict__" : Str))=false:=by decide):PE X (.Name x pos) (tVar i):=by
 intro pins s σ H Q I h
 obtain⟨v,e,h⟩:=h
 obtain⟨m,hn,hl⟩:=I.loc
 obtain⟨u,r,l⟩:=hl i x v hN e hv
 have fin:EP X pins σ Q u s:=⟨v,H,I,r,h⟩
 rcases l with⟨hk,hm⟩|⟨hk,c,hc,hcell⟩
 ·exact wpAny_Name (wpAny_loadName_local I.ok.kind hk hn hm fin) hd
 ·rcases hk with hk|hk
  ·exact wpAny_Name (wpAny_loadName_cell I.ok.kind hk hc hcell fin) hd
  ·exact wpAny_Name (wpAny_loadName_free I.ok.kind hk hc hcell fin hcd) hd
theorem pe_int {i j pos}:PE X (.Constant (.int i) j pos) (tC (.int i)):=fun _ _ _ H _ I h=>wpAny_Constant_int ⟨.int i,H,I.tok _,⟨_,rfl⟩,h⟩
theorem pe_bl {b j pos}:PE X (.Constant (.bool b) j pos) (tC (.bl b)):=fun _ _ _ H _ I h=>Constant_bool ⟨.bl b,H,I,rfl,h⟩
theorem pe_non {j pos}:PE X (.Constant .none j pos) (tC .non):=fun _ _ _ H _ I h=>Constant_none ⟨.non,H,I,rfl,h⟩
theorem pe_str {x j pos}:PE X (.Constant (.str x) j pos) (tC (.str x)):=fun _ _ _ H _ I h=>Calls.Constant_str ⟨.str x,H,I.tok _,⟨_,rfl⟩,h⟩
def Gl (X:Cx)(x:Str):Prop:=X.env.kindOf x=some .globalImplicit
theorem ld_glob {E:Value->Shared->Prop}{pins:List (Addr×Obj)}{s:Shared}{σ:St}{H:Hp}{x:Str}{u:Value}{pos:Pos}{Q:Value->Shared->Prop}(I:Inv X pins σ H s)(hg:Gl X x)(hm:X.mg x=some u)(h:Q u s)
  (hd:(x==("__debug__" : Str))=false:=by decide):wpAny (model X.prog X.w) X.A (eval (.Name x pos) X.env) Q E s :=
 Calls.Name_function_global I.ok.kind hg (Calls.loadGlobal_global (by rw[I.ok.glob];exact I.mod.glob.keeps I.bk) hm h) hd
theorem ld_blt {E:Value->Shared->Prop}{pins:List (Addr×Obj)}{s:Shared}{σ:St}{H:Hp}{x:Str}{u:Value}{pos:Pos}{Q:Value->Shared->Prop}(I:Inv X pins σ H s)(hg:Gl X x)(hm:X.mg x=none)(hv:bootBuiltins x=some u)(h:Q u s)
  (hn:x ≠ "__name__" := by decide) (hd:(x==("__debug__" : Str))=false:=by decide):wpAny (model X.prog X.w) X.A (eval (.Name x pos) X.env) Q E s:=by
 obtain⟨mb,h1,h2⟩:=I.mod.blt
 exact Calls.Name_function_global I.ok.kind hg (Calls.loadGlobal_builtin (by rw[I.ok.glob];exact I.mod.glob.keeps I.bk) hm (by rw[I.ok.blt];exact h1.keeps I.bk) ((h2 x hn).trans hv) h) hd
theorem pe_glob {x:Str}{v:V}{u:Value}{pos:Pos}(hg:Gl X x)(hm:X.mg x=some u)(r:RelV v u) (hd:(x==("__debug__" : Str))=false:=by decide):PE X (.Name x pos) (tC v) :=
 fun _ _ _ H _ I h=>ld_glob I hg hm ⟨v,H,I,r,h⟩ hd
theorem pe_bltn {x:Str}{v:V}{u:Value}{pos:Pos}(hg:Gl X x)(hm:X.mg x=none)(hv:bootBuiltins x=some u)(r:RelV v u) (hn:x ≠ "__name__" := by decide) (hd:(x==("__debug__" : Str))=false:=by decide):PE X (.Name x pos) (tC v) :=
 fun _ _ _ H _ I h=>ld_blt I hg hm hv ⟨v,H,I,r,h⟩ hn hd
variable {a b:Expr} {ta tb:TE} {pos:Pos}
def PC (X:Cx)(op:CmpOp)(a b:Expr)(t:TE):Prop :=
 ∀(pins:List (Addr×Obj)) (s:Shared) (σ:St) (H:Hp) (Q:VK),Inv X pins σ H s->t σ H Q ->
  wpAny (model X.prog X.w) X.A (eval a X.env) (fun v s₁=>wpAny (model X.prog X.w) X.A (eval b X.env) (fun u s₂=>wpAny (model X.prog X.w) X.A (compareOp op v u) (EP X pins σ Q) X.xe s₂) X.xe s₁) X.xe s
def tB (t:TE):TT:=fun σ H Q=>t σ H fun x H1=>∃c,x=.bl c/\Q c H1
theorem pt_cmp {op:CmpOp}{t:TE}(h:PC X op a b t)(h1:behindInMarks op b=false:=by first|exact nobehind _ (by decide) (by decide)|rfl):PT X (.Compare a [op] [b] pos) (tB t):=by
 intro pins s σ H Q I hw
 refine wpAny_isTrue_Compare1 (thn (h pins s σ H _ I hw) fun v s1 h1=>thn h1 fun u s2 h2=>thn h2 fun c s3 ⟨x,H1,I1,r1,q1⟩=>?_) h1
 obtain⟨d,rfl,q⟩:=q1
 cases r1
 exact wpAny_truthy_bool ⟨H1,I1,q⟩
theorem pt_val {e:Expr}{t:TE}(h:PE X e t)(he:∀whole,isTrue e X.env whole=(do let v <-whole;standAt e.pos;holding [v] (truthy v)):=by intro _;rfl):PT X e (tB t):=by
 intro pins s σ H Q I hw
 refine isTrue_plain (thn (h pins s σ H _ I hw) fun v s1 ⟨x,H1,I1,r1,q1⟩=>?_) (he _)
 obtain⟨d,rfl,q⟩:=q1
 cases r1
 exact wpAny_truthy_bool ⟨H1,I1,q⟩
variable {tA tB':TT} {rest:List Expr}
def tAnd (t u:TT):TT:=fun σ H Q=>t σ H fun c H1=>if c=true then u σ H1 Q else Q false H1
def tOr (t u:TT):TT:=fun σ H Q=>t σ H fun c H1=>if c=true then Q true H1 else u σ H1 Q
def tNot (t:TT):TT:=fun σ H Q=>t σ H fun c H1=>Q (!c) H1
theorem pw_and1 (ha:PT X a tA):PW X (.BoolOp .And [a] pos) tA:=by
 intro wh pins s σ H Q I h
 refine isTrue_and (thn (ha pins s σ H Q I h) fun c s1 e=>?_)
 cases c with
 |true=>exact isTrue_and_nil e
 |false=>exact e
theorem pw_or1 (ha:PT X a tA):PW X (.BoolOp .Or [a] pos) tA:=by
 intro wh pins s σ H Q I h
 refine isTrue_or (thn (ha pins s σ H Q I h) fun c s1 e=>?_)
 cases c with
 |false=>exact isTrue_or_nil e
 |true=>exact e
theorem pw_and (ha:PT X a tA)(hb:PW X (.BoolOp .And (b::rest) pos) tB'):PW X (.BoolOp .And (a::b::rest) pos) (tAnd tA tB'):=by
 intro wh pins s σ H Q I h
 refine isTrue_and (thn (ha pins s σ H _ I h) fun c s1 ⟨H1,I1,q1⟩=>?_)
 cases c with
 |true=>exact hb wh pins s1 σ H1 Q I1 q1
 |false=>exact⟨H1,I1,q1⟩
theorem pw_or (ha:PT X a tA)(hb:PW X (.BoolOp .Or (b::rest) pos) tB'):PW X (.BoolOp .Or (a::b::rest) pos) (tOr tA tB'):=by
 intro wh pins s σ H Q I h
 refine isTrue_or (thn (ha pins s σ H _ I h) fun c s1 ⟨H1,I1,q1⟩=>?_)
 cases c with
 |true=>exact⟨H1,I1,q1⟩
 |false=>exact hb wh pins s1 σ H1 Q I1 q1
theorem pt_not (ha:PT X a tA):PT X (.UnaryOp .Not a pos) (tNot tA):=by
 intro pins s σ H Q I h
 exact isTrue_not (ha pins s σ H (fun c H1=>Q (!c) H1) I h)
def tAndV (ta tb:TE):TE:=fun σ H Q=>ta σ H fun x H1=>∃c,x=.bl c/\if c=true then tb σ H1 Q else Q (.bl false) H1
def tOrV (ta tb:TE):TE:=fun σ H Q=>ta σ H fun x H1=>∃c,x=.bl c/\if c=true then Q (.bl true) H1 else tb σ H1 Q
def tNotV (ta:TE):TE:=fun σ H Q=>ta σ H fun x H1=>∃c,x=.bl c/\Q (.bl (!c)) H1
theorem pe_one {op}{t:TE}(h:PE X a t):PE X (.BoolOp op [a] pos) t:=fun pins s σ H Q I hw=>BoolOp_one (h pins s σ H Q I hw)
theorem pe_and (ha:PE X a ta)(hb:PE X (.BoolOp .And (b::rest) pos) tb):PE X (.BoolOp .And (a::b::rest) pos) (tAndV ta tb):=by
 intro pins s σ H Q I h
 refine BoolOp_and (thn (ha pins s σ H _ I h) fun v s1 ⟨x,H1,I1,r1,q1⟩=>?_)
 obtain⟨c,rfl,q1⟩:=q1
 cases r1
 refine wpAny_truthy_bool ?_
 cases c with
 |true=>exact hb pins s1 σ H1 Q I1 q1
 |false=>exact⟨.bl false,H1,I1,rfl,q1⟩
theorem pe_or (ha:PE X a ta)(hb:PE X (.BoolOp .Or (b::rest) pos) tb):PE X (.BoolOp .Or (a::b::rest) pos) (tOrV ta tb):=by
 intro pins s σ H Q I h
 refine BoolOp_or (thn (ha pins s σ H _ I h) fun v s1 ⟨x,H1,I1,r1,q1⟩=>?_)
 obtain⟨c,rfl,q1⟩:=q1
 cases r1
 refine wpAny_truthy_bool ?_
 cases c with
 |false=>exact hb pins s1 σ H1 Q I1 q1
 |true=>exact⟨.bl true,H1,I1,rfl,q1⟩
theorem pe_not (ha:PE X a ta):PE X (.UnaryOp .Not a pos) (tNotV ta):=by
 intro pins s σ H Q I h
 refine UnaryOp_ (thn (ha pins s σ H _ I h) fun v s1 ⟨x,H1,I1,r1,q1⟩=>?_)
 obtain⟨c,rfl,q1⟩:=q1
 cases r1
 exact not_of (wpAny_truthy_bool ⟨.bl (!c),H1,I1,rfl,q1⟩)
def tIf (t:TT)(ta tb:TE):TE:=fun σ H Q=>t σ H fun c H1=>if c=true then ta σ H1 Q else tb σ H1 Q
theorem pe_ifExp {c:Expr}(hc:PT X c tA)(ha:PE X a ta)(hb:PE X b tb):PE X (.IfExp c a b pos) (tIf tA ta tb):=by
 intro pins s σ H Q I h
 refine wpAny_IfExp (thn (hc pins s σ H _ I h) fun d s1 ⟨H1,I1,q1⟩=>?_)
 cases d with
 |true=>exact ha pins s1 σ H1 Q I1 q1
 |false=>exact hb pins s1 σ H1 Q I1 q1
end
def SqL (K:PySem.W.Frag)(H:Hp)(a:Addr)(xs:List V):Prop :=
 Rd H a (.lst xs) \/
  ∃(o:Obj) (its:Array Value) (n:Nat),K.lookup a=some o/\o.cls=.type "list"/\o.dict=none/\o.data=.seq its n/\its.size<=sizeLine/\Vals xs its.toList
def SqT (K:PySem.W.Frag)(H:Hp)(a:Addr)(xs:List V):Prop :=
 Rd H a (.tup xs) \/
  ∃(o:Obj) (its:Array Value) (n:Nat),K.lookup a=some o/\o.cls=.type "tuple"/\o.data=.seq its n/\its.size<=sizeLine/\Vals xs its.toList
def absV:Value->Option V
 |.none=>some .non
 |.bool b=>some (.bl b)
 |.int i _=>some (.int i)
 |.str x _=>some (.str x)
 |.bytes b _=>some (.byt b)
 |.float b _=>some (.flt b)
 |.ref a=>some (.ref a)
 |.type n=>some (.ty n)
 |_=>none
theorem RelV.abs {x:V}{u:Value}(r:RelV x u):absV u=some x:=by
 cases x with
 |non=>cases r;rfl
 |bl _=>cases r;rfl
 |int _=>obtain⟨t,rfl⟩:=r;rfl
 |str _=>obtain⟨t,rfl⟩:=r;rfl
 |byt _=>obtain⟨t,rfl⟩:=r;rfl
 |flt _=>obtain⟨t,rfl⟩:=r;rfl
 |ref _=>cases r;rfl
 |ty _=>cases r;rfl
theorem RelV.inj {x y:V}{u:Value}(r:RelV x u)(q:RelV y u):x=y:=Option.some.inj (r.abs.symm.trans q.abs)
theorem Vals.inj:∀{xs ys:List V} {us:List Value},Vals xs us->Vals ys us->xs=ys
 |_,_,_,.nil,.nil=>rfl
 |_,_,_,.cons r t,.cons r' t'=>by rw[r.inj r',Vals.inj t t']
section
variable {X:Cx} {pins:List (Addr×Obj)} {σ:St} {H:Hp} {s:Shared} {a:Addr} {xs ys:List V}
theorem SqL.of {K:PySem.W.Frag}(h:H a=some (.lst xs)):SqL K H a xs:=.inl (.inl h)
theorem SqT.of {K:PySem.W.Frag}(h:H a=some (.tup xs)):SqT K H a xs:=.inl (.inl h)
theorem Inv.list (I:Inv X pins σ H s)(h:SqL X.K H a xs):∃its:List Value,Vals xs its/\PlainL s.heap a its.toArray/\xs.length<=sizeLine:=by
 rcases h with h|⟨o,its,n,hk,hc,hd,hs,hz,r⟩
 ·obtain⟨z,its,n,r,e⟩:=h.ok I.hok
  exact⟨its,r,⟨_,n,e,rfl,rfl,rfl⟩,z⟩
 ·refine⟨its.toList,r,⟨o,n,I.kIn a o hk,hc,hd,by simpa using hs⟩,?_⟩
  have e:=r.length
  simp only[Array.length_toList] at e
  omega
theorem Inv.tuple (I:Inv X pins σ H s)(h:SqT X.K H a xs):∃its:List Value,Vals xs its/\IsTup s.heap a its.toArray/\xs.length<=sizeLine:=by
 rcases h with h|⟨o,its,n,hk,hc,hs,hz,r⟩
 ·obtain⟨z,its,r,p⟩:=h.ok I.hok
  exact⟨its,r,p,z⟩
 ·refine⟨its.toList,r,⟨o,I.kIn a o hk,hc,n,by simpa using hs⟩,?_⟩
  have e:=r.length
  simp only[Array.length_toList] at e
  omega
theorem Inv.list_inj (I:Inv X pins σ H s)(h:SqL X.K H a xs)(h':SqL X.K H a ys):xs=ys:=by
 obtain⟨its,r,⟨o,n,e,_,_,d⟩,_⟩:=I.list h
 obtain⟨its',r',⟨o',n',e',_,_,d'⟩,_⟩:=I.list h'
 rw[e] at e';cases e'
 rw[d] at d'
 injection d' with d1 _
 have:its=its':=by simpa using congrArg Array.toList d1
 subst this
 exact r.inj r'
theorem Inv.tuple_inj (I:Inv X pins σ H s)(h:SqT X.K H a xs)(h':SqT X.K H a ys):xs=ys:=by
 obtain⟨its,r,⟨o,e,_,n,d⟩,_⟩:=I.tuple h
 obtain⟨its',r',⟨o',e',_,n',d'⟩,_⟩:=I.tuple h'
 rw[e] at e';cases e'
 rw[d] at d'
 injection d' with d1 _
 have:its=its':=by simpa using congrArg Array.toList d1
 subst this
 exact r.inj r'
end
abbrev Cx.wish (X:Cx)(E:Value->Shared->Prop):Cx:={ X with xe:=E }
abbrev Cx.nox (X:Cx):Cx:=X.wish fun _ _=>False
theorem Cx.Ok.wish {X:Cx}(ok:X.Ok)(E:Value->Shared->Prop):(X.wish E).Ok :=
 ⟨ok.mod,ok.kind,ok.glob,ok.blt,ok.above,ok.inj,ok.has,ok.cab,ok.hd,ok.frames,ok.stk,ok.exf,ok.bs,ok.bsz,ok.noex,ok.exfs,ok.funs,ok.frf⟩
theorem Cx.Ok.unwish {X:Cx}{E:Value->Shared->Prop}(ok:(X.wish E).Ok):X.Ok :=
 ⟨ok.mod,ok.kind,ok.glob,ok.blt,ok.above,ok.inj,ok.has,ok.cab,ok.hd,ok.frames,ok.stk,ok.exf,ok.bs,ok.bsz,ok.noex,ok.exfs,ok.funs,ok.frf⟩
section
variable {X:Cx} {pins:List (Addr×Obj)} {σ:St} {H:Hp} {s:Shared} {E:Value->Shared->Prop}
theorem Inv.wish (I:Inv X pins σ H s)(E:Value->Shared->Prop):Inv (X.wish E) pins σ H s:=⟨I.ok.wish E,I.os,I.bare,I.base,I.loc,I.cell,I.free,I.freeC,I.pin,I.hok,I.len⟩
theorem Inv.unwish (I:Inv (X.wish E) pins σ H s):Inv X pins σ H s:=⟨I.ok.unwish,I.os,I.bare,I.base,I.loc,I.cell,I.free,I.freeC,I.pin,I.hok,I.len⟩
theorem SP.unwish {D:Ends}{f:Flow}{s':Shared}(h:SP (X.wish E) pins D f s'):SP X pins D f s':=by
 cases f with
 |next=>obtain⟨σ',H',I,q⟩:=h;exact⟨σ',H',I.unwish,q⟩
 |brk=>obtain⟨σ',H',I,q⟩:=h;exact⟨σ',H',I.unwish,q⟩
 |cont=>obtain⟨σ',H',I,q⟩:=h;exact⟨σ',H',I.unwish,q⟩
 |ret u=>obtain⟨v,σ',H',I,r,q⟩:=h;exact⟨v,σ',H',I.unwish,r,q⟩
theorem PSs.nox {st:List Stmt}{t:TS}(h:PSs X.nox st t):PSs X st t:=fun pins s σ H D I hw =>
 wpAny_mono (h pins s σ H D (I.wish _) hw) (fun _ _ q=>q.unwish) fun _ _ z=>False.elim z
end
section
variable {X:Cx} {st:Stmt} {rest:List Stmt} {t u:TS} {e:Expr} {te:TE} {pos:Pos}
def tNext:TS:=fun D σ H=>D.nx σ H
def tSeq (t u:TS):TS:=fun D σ H=>t { D with nx:=u D } σ H
theorem pss_nil:PSs X [] tNext:=fun _ _ σ H _ I h=>wpAny_execs_nil ⟨σ,H,I,h⟩
theorem pss_cons (h1:PS X st t)(h2:PSs X rest u):PSs X (st::rest) (tSeq t u):=by
 intro pins s σ H D I h
 refine wpAny_execs_cons (thn (h1 pins s σ H { D with nx:=u D } I h) fun f s1 q=>?_)
 cases f with
 |next =>
  obtain⟨σ',H',I',q⟩:=q
  exact h2 pins s1 σ' H' D I' q
 |ret v=>exact q
 |brk=>exact q
 |cont=>exact q
theorem pss_one (h1:PS X st t):PSs X [st] t:=by
 intro pins s σ H D I h
 refine wpAny_execs_cons (thn (h1 pins s σ H D I h) fun f s1 q=>?_)
 cases f with
 |next=>exact wpAny_execs_nil q
 |ret v=>exact q
 |brk=>exact q
 |cont=>exact q
theorem Inv.quiet {pins:List (Addr×Obj)}{σ:St}{H:Hp}{s:Shared}(I:Inv X pins σ H s):interactive X.env=false:=by simp[interactive,I.ok.kind]
def tDrop (te:TE):TS:=fun D σ H=>te σ H fun _ H1=>D.nx σ H1
theorem ps_expr (he:PE X e te)(hs:swapsWith e none pos.line X.env=pure false:=by rfl):PS X (.Expr e pos) (tDrop te):=by
 intro pins s σ H D I h
 exact wpAny_Expr_any (thn (he pins s σ H _ I h) fun v s1 ⟨x,H1,I1,r1,q1⟩=>⟨σ,H1,I1,q1⟩) I.quiet hs
def tRet (te:TE):TS:=fun D σ H=>te σ H D.rt
theorem ps_ret (he:PE X e te):PS X (.Return (some e) pos) (tRet te):=by
 intro pins s σ H D I h
 exact wpAny_Return_some (thn (he pins s σ H _ I h) fun v s1 ⟨x,H1,I1,r1,q1⟩=>⟨x,σ,H1,I1,r1,q1⟩)
def tIfS (c:TT)(t u:TS):TS:=fun D σ H=>c σ H fun b H1=>if b=true then t D σ H1 else u D σ H1
theorem ps_if {c:Expr}{a b:List Stmt}{tc:TT}(hc:PT X c tc)(ha:PSs X a t)(hb:PSs X b u):PS X (.If c a b pos) (tIfS tc t u):=by
 intro pins s σ H D I h
 refine wpAny_If (thn (hc pins s σ H _ I h) fun d s1 ⟨H1,I1,q1⟩=>?_)
 cases d with
 |true=>exact ha pins s1 σ H1 D I1 q1
 |false=>exact hb pins s1 σ H1 D I1 q1
def tNever:TS:=fun _ _ _=>False
theorem ps_never:PS X st tNever:=fun _ _ _ _ _ _ h=>h.elim
theorem pss_never {sts:List Stmt}:PSs X sts tNever:=fun _ _ _ _ _ _ h=>h.elim
end
abbrev TG:=V->St->Hp->(St->Hp->Prop)->Prop
abbrev TGs:=List V->St->Hp->(St->Hp->Prop)->Prop
def PG (X:Cx)(target:Expr)(t:TG):Prop :=
 ∀(pins:List (Addr×Obj)) (s:Shared) (σ:St) (H:Hp) (v:V) (u:Value) (Q:St->Hp->Prop),Inv X pins σ H s->RelV v u->t v σ H Q ->
  wpAny (model X.prog X.w) X.A (assign target X.env u) (fun _ s'=>∃σ' H',Inv X pins σ' H' s'/\Q σ' H') X.xe s
def PGs (X:Cx)(ts:List Expr)(t:TGs):Prop :=
 ∀(pins:List (Addr×Obj)) (s:Shared) (σ:St) (H:Hp) (vs:List V) (us:List Value) (Q:St->Hp->Prop),Inv X pins σ H s->Vals vs us->t vs σ H Q ->
  wpAny (model X.prog X.w) X.A (assignInOrder ((assignEach ts X.env).map (·.2)) us) (fun _ s'=>∃σ' H',Inv X pins σ' H' s'/\Q σ' H') X.xe s
abbrev TSet:=V->V->V->Hp->(Hp->Prop)->Prop
def PSet (X:Cx)(t:TSet):Prop :=
 ∀(pins:List (Addr×Obj)) (s:Shared) (σ:St) (H:Hp) (o i v:V) (ov iv u:Value) (Q:Hp->Prop),Inv X pins σ H s->RelV o ov->RelV i iv->RelV v u->t o i v H Q ->
  wpAny (model X.prog X.w) X.A (setItem ov iv u) (fun _ s'=>∃H',Inv X pins σ H' s'/\Q H') X.xe s
section
variable {X:Cx} {pos:Pos}
def gName (i:Nat):TG:=fun v σ H Q=>Q (σ.set i (some v)) H
theorem pg_name {i:Nat}{x:Str}(hN:X.N.Nodup)(hi:X.N[i]?=some x)(hx:Loc X.env.scope x)(hf:X.fn x=true\/X.env.scope.names.lookup x=some .local:=by first|exact .inl rfl|exact .inr rfl|assumption):PG X (.Name x pos) (gName i):=by
 intro pins s σ H v u Q I r h
 exact wpAny_assign_Name (store_ok I hN hi hx r (fun s' I'=>⟨_,H,I',h⟩) hf)
def gNil:TGs:=fun vs σ H Q=>vs=[]/\Q σ H
def gCons (t:TG)(u:TGs):TGs:=fun vs σ H Q=>∃v r,vs=v::r/\t v σ H fun σ' H'=>u r σ' H' Q
theorem pgs_nil:PGs X [] gNil:=by
 intro pins s σ H vs us Q I r h
 obtain⟨e,h⟩:=h
 subst e
 cases r
 exact assignInOrder_nil ⟨σ,H,I,h⟩
theorem pgs_cons {e:Expr}{es:List Expr}{t:TG}{u:TGs}(h1:PG X e t)(h2:PGs X es u)(hs:(assignEach (e::es) X.env).map (·.2)=assign e X.env::(assignEach es X.env).map (·.2):=by rfl):PGs X (e::es) (gCons t u):=by
 intro pins s σ H vs us Q I r h
 obtain⟨v,vr,e1,h⟩:=h
 subst e1
 cases r with
 |cons r rr =>
  rw[hs]
  refine assignInOrder_cons (thn (h1 pins s σ H _ _ _ I r h) fun _ s1 ⟨σ1,H1,I1,q1⟩=>?_)
  exact h2 pins s1 σ1 H1 _ _ Q I1 rr q1
def tAsg (te:TE)(g:TG):TS:=fun D σ H=>te σ H fun x H1=>g x σ H1 D.nx
theorem ps_asg {tg e:Expr}{te:TE}{g:TG}(he:PE X e te)(hg:PG X tg g)(hs:swapsWithSole [tg] e pos.line X.env=pure false:=by rfl)(hw:swappedStores [tg] e X.env=pure none:=by rfl)(h1:(assignEach [tg] X.env).map (·.2)=[assign tg X.env]:=by rfl):PS X (.Assign [tg] e pos) (tAsg te g):=by
 intro pins s σ H D I h
 refine wpAny_Assign_stores (thn (he pins s σ H _ I h) fun v s1 ⟨x,H1,I1,r1,q1⟩=>?_) hs hw
 rw[h1]
 exact thn (hg pins s1 σ H1 x v _ I1 r1 q1) fun _ s2 q=>q
theorem ps_set {i:Nat}{x:Str}{e:Expr}{te:TE}{pos':Pos}(hN:X.N.Nodup)(hi:X.N[i]?=some x)(hx:Loc X.env.scope x)(he:PE X e te)(hs:swapsWith e (some (.Name x pos')) pos.line X.env=pure false:=by rfl)(hf:X.fn x=true\/X.env.scope.names.lookup x=some .local:=by first|exact .inl rfl|exact .inr rfl|assumption) :
  PS X (.Assign [.Name x pos'] e pos) (tAsg te (gName i)):=by
 intro pins s σ H D I h
 refine wpAny_Assign_Name (thn (he pins s σ H _ I h) fun v s1 ⟨y,H1,I1,r1,q1⟩=>?_) hs
 exact store_ok I1 hN hi hx r1 (fun s2 I2=>⟨_,H1,I2,q1⟩) hf
def tPar (i j:Nat)(ta:TA):TS:=fun D σ H=>ta σ H fun vs H1=>∃v w,vs=[v,w]/\D.nx ((σ.set i (some v)).set j (some w)) H1
theorem ps_par {i j:Nat}{x y:Str}{a b:Expr}{ta:TA}{px py pt:Pos}{kt k2 pt2}(hc:X.calm=true)(hN:X.N.Nodup)(hi:X.N[i]?=some x)(hj:X.N[j]?=some y)(hij:i≠j)(hx:X.env.scope.names.lookup x=some .local)(hy:X.env.scope.names.lookup y=some .local)(ha:PA X [a,b] ta)(hw:swappedStores [.Tuple [.Name x px,.Name y py] kt pt] (.Tuple [a,b] k2 pt2) X.env=pure (some [x,y]))(hs:swapsWithSole [.Tuple [.Name x px,.Name y py] kt pt] (.Tuple [a,b] k2 pt2) pos.line X.env=pure false:=by rfl) :
  PS X (.Assign [.Tuple [.Name x px,.Name y py] kt pt] (.Tuple [a,b] k2 pt2) pos) (tPar i j ta):=by
 intro pins s σ H D I h
 rw[exec_Assign_arm]
 refine wpAny_bind (wpAny_standAt ?_)
 rw[hs]
 refine wpAny_bind (wpAny_pure ?_)
 rw[if_neg (by decide)]
 refine wpAny_bind (Tuple_ (thn (ha _ pins s σ H _ I h) fun us s1 ⟨vs,H1,I1,r1,q1⟩=>?_))
 obtain⟨v,w,e1,q1⟩:=q1
 subst e1
 obtain⟨u1,u2,rfl,rv,rw'⟩:∃u1 u2,us=[u1,u2]/\RelV v u1/\RelV w u2:=by
  cases r1 with
  |cons p q =>
   cases q with
   |cons p' q' =>
    cases q'
    exact⟨_,_,rfl,p,p'⟩
 refine wpAny_newObj_type ?_ (by show 2<=sizeLine;decide)
 have I2:Inv X pins σ H1 { s1 with heap:=s1.heap.push { cls:=.type "tuple", data:=.seq [u1,u2].toArray } }:=I1.kept (t':=s1.toks) fun b o e=>Heap.get?_push_of_some _ e
 rw[hw]
 refine wpAny_bind (wpAny_pure ?_)
 show wpAny (model X.prog X.w) X.A (do rule "assign.swapped-stores"; let items <-unpackItems (.ref s1.heap.objs.size) 2 none;assignInOrder [fun v=>bindName X.env y v,fun v=>bindName X.env x v] items.reverse;pure Flow.next) _ _ _
 refine wpAny_bind (wpAny_rule (wpAny_bind (unpackItems_tuple (items:=#[u1,u2]) (I.ok.hd hc) (IsTup.new s1.heap _) fun h' hx'=>?_)))
 have I3:=I2.kept (h':=h') (t':=s1.toks) fun b o e=>hx' b o (Nat.ne_of_lt (Heap.lt_size e)) e
 show wpAny _ _ (assignInOrder [fun v=>bindName X.env y v,fun v=>bindName X.env x v] [u2,u1]>>=fun _=>pure Flow.next) _ _ _
 refine wpAny_bind (assignInOrder_cons (wpAny_bindName (store_ok I3 hN hj (.inl hy) rw' (fun s2 I4=>?_) (.inr hy))))
 refine assignInOrder_cons (wpAny_bindName (store_ok I4 hN hi (.inl hx) rv (fun s3 I5=>assignInOrder_nil (wpAny_pure ?_)) (.inr hx)))
 rw[List.set_comm _ _ (Ne.symm hij)] at I5
 exact⟨_,H1,I5,q1⟩
end
section
variable {X:Cx} {pos:Pos}
def tWhile (c:TT)(tb:TS):TS:=fun D σ H=>∃W:Nat->St->Hp->Prop,(∃m,W m σ H)/\∀m σ H,W m σ H ->
 c σ H fun b H1=>if b=true then ∃N:St->Hp->Prop,(∀σ' H',N σ' H'->∃m',m'<m/\W m' σ' H')/\tb { D with nx:=N,ct:=N,bk:=D.nx } σ H1 else D.nx σ H1
theorem ps_while {c:Expr}{body:List Stmt}{tc:TT}{tb:TS}(hp:PassesOwn (model X.prog X.w) X.A X.env X.xe)(hc:PT X c tc)(hb:PSs X body tb):PS X (.While c body [] pos) (tWhile tc tb):=by
 intro pins s σ H D I h
 obtain⟨W,⟨m0,w0⟩,turn⟩:=h
 refine wpAny_While (codeAny_whileLoop (fun n s'=>∃σ' H',Inv X pins σ' H' s'/\W n σ' H') ?_ m0 ⟨σ,H,I,w0⟩)
 rintro n s1 ⟨σ1,H1,I1,w1⟩
 refine wpAny_passesOwn hp (thn (hc pins s1 σ1 H1 _ I1 (turn n σ1 H1 w1)) fun b s2 ⟨H2,I2,q2⟩=>?_)
 cases b with
 |true =>
  obtain⟨N,hN,q2⟩:=q2
  rw[if_pos rfl]
  refine wpAny_passesOwn hp (thn (hb pins s2 σ1 H2 _ I2 q2) fun f s3 q3=>?_)
  cases f with
  |next =>
   obtain⟨σ3,H3,I3,n3⟩:=q3
   obtain⟨m',hm,w3⟩:=hN σ3 H3 n3
   exact⟨m',hm,σ3,H3,I3,w3⟩
  |cont =>
   obtain⟨σ3,H3,I3,n3⟩:=q3
   obtain⟨m',hm,w3⟩:=hN σ3 H3 n3
   exact⟨m',hm,σ3,H3,I3,w3⟩
  |brk=>exact q3
  |ret v=>exact q3
 |false =>
  rw[if_neg Bool.false_ne_true]
  exact wpAny_execs_nil ⟨σ1,H2,I2,q2⟩
end
structure It where
 go:Nat->Hp->Prop
 yld:Nat->Hp->V->Hp->Prop
 stop:Nat->Hp->Prop
def FpOk (X:Cx)(pins:List (Addr×Obj))(H:Hp)(b:Addr):Prop :=
 H b=none/\b≠X.env.locals/\b ∉ X.fs/\(b∈X.ex\/X.s₀.heap.objs.size<=b)/\(∀x c,X.env.cells.lookup x=some c->c≠b)/\∀p∈X.pn++pins,p.1≠b
theorem Inv.fpOk {X:Cx}{pins:List (Addr×Obj)}{σ:St}{H H':Hp}{s:Shared}{b:Addr}(I:Inv X pins σ H s)(hb:s.heap.objs.size<=b)(hn:H' b=none):FpOk X pins H' b:=by
 refine⟨hn,Nat.ne_of_gt (Nat.lt_of_lt_of_le I.lt hb),I.nofs hb,.inr (Nat.le_trans I.sz hb),fun x c e z=>?_,fun p hp z=>?_⟩
 ·obtain⟨v,q⟩:=I.cell x c e
  exact absurd (Nat.lt_of_lt_of_le q.lt (by rw[z];exact hb)) (Nat.lt_irrefl _)
 ·exact absurd (Nat.lt_of_lt_of_le (Heap.lt_size (I.pin p hp).1) (by rw[z];exact hb)) (Nat.lt_irrefl _)
structure Turn (P:Program) (w:World) (K:PySem.W.Frag) (tg:Expr) (J:It) (fp:List Addr) (it:Addr) (tn:Nat->Heap->Prop):Prop where
 mem:it∈fp
 obj:∀i h,tn i h->∀b∈fp,∃o,h.get? b=some o/\∀v,o.data≠.cell v
 keep:∀i h h',tn i h->(∀b∈fp,∀o,h.get? b=some o->h'.get? b=some o)->tn i h'
 item:∀(X:Cx),X.prog=P->X.w=w->X.K=K->X.calm=true->∀(i:Nat) (pins:List (Addr×Obj)) (s:Shared) (σ:St) (H:Hp) (E:Value->Shared->Prop),Inv X pins σ H s->(∀b∈fp,FpOk X pins H b)->tn i s.heap->J.go i H ->
  wpAny (model P w) X.A (pyNext (.ref it)) (fun r s1=>∃u,r=some u /\
   wpAny (model P w) X.A (letOwnedTupleGo tg (.ref it) u) (fun _ s2=>∃x H',Inv X pins σ H' s2/\RelV x u/\J.yld i H x H'/\tn (i+1) s2.heap/\∀b∈fp,H' b=none) E s1) E s
 done:∀(X:Cx),X.prog=P->X.w=w->X.K=K->X.calm=true->∀(i:Nat) (pins:List (Addr×Obj)) (s:Shared) (σ:St) (H:Hp) (E:Value->Shared->Prop),Inv X pins σ H s->(∀b∈fp,FpOk X pins H b)->tn i s.heap->J.stop i H ->
  wpAny (model P w) X.A (pyNext (.ref it)) (fun r s1=>r=none/\Inv X pins σ H s1) E s
 self:∀(A:Around) (i:Nat) (s:Shared) (Q:Value->Shared->Prop) (E:Value->Shared->Prop),tn i s.heap->Q (.ref it) s->wpAny (model P w) A (pyIter (.ref it)) Q E s
abbrev TI:=St->Hp->(It->Hp->Prop)->Prop
def PIE (X:Cx)(pins:List (Addr×Obj))(σ:St)(tg:Expr)(R:It->Hp->Prop)(itv:Value)(s2:Shared):Prop :=
 ∃(it:Addr) (fp:List Addr) (tn:Nat->Heap->Prop) (J:It) (H':Hp),itv=.ref it/\Inv X pins σ H' s2/\Turn X.prog X.w X.K tg J fp it tn/\tn 0 s2.heap/\(∀b∈fp,FpOk X pins H' b)/\R J H'
def PI (X:Cx)(tg iter:Expr)(wi:TI):Prop :=
 ∀(pins:List (Addr×Obj)) (s:Shared) (σ:St) (H:Hp) (R:It->Hp->Prop),Inv X pins σ H s->wi σ H R ->
  wpAny (model X.prog X.w) X.A (eval iter X.env) (fun v s1=>wpAny (model X.prog X.w) X.A (pyIter v) (PIE X pins σ tg R) X.xe s1) X.xe s
theorem go_of {M:Model}{A:Around}{E:Value->Shared->Prop}{s:Shared}{tg:Expr}{it:Addr}{u:Value}{o:Obj}{n:String}{vs:Array Value}{Q:Unit->Shared->Prop}(ho:s.heap.get? it=some o)(hc:o.cls=.type n)(hd:o.data=.fields vs)
  (hn:["enumerate", "zip", "dict_itemiterator", "dict_reverseitemiterator", "odict_iterator", "itertools.zip_longest", "itertools.pairwise"].contains n=false) (hQ:Q () s):wpAny M A (letOwnedTupleGo tg (.ref it) u) Q E s:=by
 unfold letOwnedTupleGo
 cases tg<;>first
  |exact wpAny_pure hQ
  |(cases u<;>first
    |exact wpAny_pure hQ
    |(refine wpAny_bind (wpAny_load ho ?_)
      rw[hc,hd]
      show wpAny M A (if(["enumerate", "zip", "dict_itemiterator", "dict_reverseitemiterator", "odict_iterator", "itertools.zip_longest", "itertools.pairwise"].contains n&&vs[0]?==some (rawInt _))=true then _ else _) Q E s
      rw[if_neg (by intro h;rw[hn,Bool.false_and] at h;cases h)]
      exact wpAny_pure hQ))
def Itl (K:PySem.W.Frag)(a:Addr):It :=
 ⟨fun i H=>∃xs x,SqL K H a xs/\xs[i]?=some x,fun i H x H'=>H'=H/\∀xs,SqL K H a xs->xs[i]?=some x,fun i H=>∃xs,SqL K H a xs/\xs.length<=i⟩
def Itt (K:PySem.W.Frag)(a:Addr):It :=
 ⟨fun i H=>∃xs x,SqT K H a xs/\xs[i]?=some x,fun i H x H'=>H'=H/\∀xs,SqT K H a xs->xs[i]?=some x,fun i H=>∃xs,SqT K H a xs/\xs.length<=i⟩
def Itr (lo:Int)(n:Nat):It:=⟨fun i _=>i<n,fun i H x H'=>H'=H/\x=.int (lo+i),fun i _=>n<=i⟩
theorem turn_list {P:Program}{w:World}{K:PySem.W.Frag}{tg:Expr}(a it:Addr):Turn P w K tg (Itl K a) [it] it (fun i h=>h.IsListIter it a i) where
 mem:=by simp
 obj:=fun i h st b hb=>by
  have e:b=it:=by simpa using hb
  subst e
  obtain⟨o,e,c,d⟩:=st
  exact⟨o,e,fun v z=>by rw[d] at z;cases z⟩
 keep:=fun i h h' st k=>st.at fun o e=>k it (by simp) o e
 item:=by
  intro X hP hw hK hc i pins s σ H E I hf st hg
  subst hP hw hK
  obtain⟨xs,x,hq,hx⟩:=hg
  obtain⟨its,rv,p,hz⟩:=I.list hq
  obtain⟨u,hu,ru⟩:=rv.get hx
  obtain⟨f0,f1,f2,f3,f4,f5⟩:=hf it (by simp)
  refine wpAny_pyNext_list_item st p.isList (x:=u) (by simpa using hu) fun h' st' sb=>?_
  have I1:Inv X pins σ H { s with heap:=h' }:=I.turned (t':=s.toks) (fun b o hb e=>(sb.2 b hb).trans e) f0 f1 f3 f4 f5
  obtain⟨o,e,c,d⟩:=id st'
  exact⟨u,rfl,go_of (s:={ s with heap:=h' }) e c d (by decide) ⟨x,H,I1,ru,⟨rfl,fun ys hy=>by rw[I.list_inj hy hq];exact hx⟩,st',fun b hb=>(hf b hb).1⟩⟩
 done:=by
  intro X hP hw hK hc i pins s σ H E I hf st hg
  subst hP hw hK
  obtain⟨xs,hq,hx⟩:=hg
  obtain⟨its,rv,p,hz⟩:=I.list hq
  obtain⟨f0,f1,f2,f3,f4,f5⟩:=hf it (by simp)
  have hl:=rv.length
  exact wpAny_pyNext_list_end (I.ok.hd hc) st p.isList (by simp;omega) fun h' eb=>⟨rfl,I.turned (t':=s.toks) (fun b o hb e=>eb b o hb e) f0 f1 f3 f4 f5⟩
 self:=fun _ _ _ _ _ st h=>wpAny_pyIter_listiter st h
theorem turn_tuple {P:Program}{w:World}{K:PySem.W.Frag}{tg:Expr}(a it:Addr):Turn P w K tg (Itt K a) [it] it (fun i h=>h.IsTupleIter it a i) where
 mem:=by simp
 obj:=fun i h st b hb=>by
  have e:b=it:=by simpa using hb
  subst e
  obtain⟨o,e,c,d⟩:=st
  exact⟨o,e,fun v z=>by rw[d] at z;cases z⟩
 keep:=fun i h h' st k=>st.at fun o e=>k it (by simp) o e
 item:=by
  intro X hP hw hK hc i pins s σ H E I hf st hg
  subst hP hw hK
  obtain⟨xs,x,hq,hx⟩:=hg
  obtain⟨its,rv,p,hz⟩:=I.tuple hq
  obtain⟨u,hu,ru⟩:=rv.get hx
  obtain⟨f0,f1,f2,f3,f4,f5⟩:=hf it (by simp)
  refine wpAny_pyNext_tuple_item st (show s.heap.IsTuple a its.toArray from p) (x:=u) (by simpa using hu) fun h' st' sb=>?_
  have I1:Inv X pins σ H { s with heap:=h' }:=I.turned (t':=s.toks) (fun b o hb e=>(sb.2 b hb).trans e) f0 f1 f3 f4 f5
  obtain⟨o,e,c,d⟩:=id st'
  exact⟨u,rfl,go_of (s:={ s with heap:=h' }) e c d (by decide) ⟨x,H,I1,ru,⟨rfl,fun ys hy=>by rw[I.tuple_inj hy hq];exact hx⟩,st',fun b hb=>(hf b hb).1⟩⟩
 done:=by
  intro X hP hw hK hc i pins s σ H E I hf st hg
  subst hP hw hK
  obtain⟨xs,hq,hx⟩:=hg
  obtain⟨its,rv,p,hz⟩:=I.tuple hq
  obtain⟨f0,f1,f2,f3,f4,f5⟩:=hf it (by simp)
  have hl:=rv.length
  exact wpAny_pyNext_tuple_end (I.ok.hd hc) st (show s.heap.IsTuple a its.toArray from p) (by simp;omega) fun h' eb=>⟨rfl,I.turned (t':=s.toks) (fun b o hb e=>eb b o hb e) f0 f1 f3 f4 f5⟩
 self:=fun _ _ _ _ _ st h=>wpAny_pyIter_tupleiter st h
theorem turn_range {P:Program}{w:World}{K:PySem.W.Frag}{tg:Expr}(it:Addr)(lo:Int)(n:Nat):Turn P w K tg (Itr lo n) [it] it (fun i h=>IsRangeIter h it (lo+(i:Nat)*1) ((n:Int) - (i:Nat)) 1) where
 mem:=by simp
 obj:=fun i h st b hb=>by
  have e:b=it:=by simpa using hb
  subst e
  exact⟨_,st,fun v z=>by
   have z':Data.fields _=Data.cell v:=z
   cases z'⟩
 keep:=fun i h h' st k=>k it (by simp) _ st
 item:=by
  intro X hP hw hK hc i pins s σ H E I hf st hg
  subst hP hw hK
  obtain⟨f0,f1,f2,f3,f4,f5⟩:=hf it (by simp)
  have W:=Walks.range (prog:=X.prog) (w:=X.w) (I.ok.hd hc) it lo 1 n
  refine W.item i s _ _ hg st fun v h' tk hv st' kk=>?_
  obtain⟨t,rfl⟩:=hv
  have I1:Inv X pins σ H { s with heap:=h',toks:=tk }:=I.turned (fun b o hb e=>kk b o (by simpa using hb) e) f0 f1 f3 f4 f5
  refine⟨_,rfl,go_of (s:={ s with heap:=h',toks:=tk }) (n := "range_iterator") st' rfl rfl (by decide) ⟨.int (lo+i),H,I1,⟨t,?_⟩,⟨rfl,rfl⟩,st',fun b hb=>(hf b hb).1⟩⟩
  rw[Int.mul_one]
 done:=by
  intro X hP hw hK hc i pins s σ H E I hf st hg
  subst hP hw hK
  obtain⟨f0,f1,f2,f3,f4,f5⟩:=hf it (by simp)
  exact wpAny_pyNext_range_end (I.ok.hd hc) st (by have:n<=i:=hg;omega) fun h' eb=>⟨rfl,I.turned (t':=s.toks) (fun b o hb e=>eb b o hb e) f0 f1 f3 f4 f5⟩
 self:=fun _ _ _ _ _ st h=>wpAny_pyIter_rangeiter st h
section
variable {X:Cx} {tg:Expr}
theorem range_it {pins:List (Addr×Obj)}{σ:St}{H:Hp}{s:Shared}{R:It->Hp->Prop}{E:Value->Shared->Prop}{lo hi:Int}{t u v:Tok}{tk:Nat}(I:Inv X pins σ H s)(h1:-(2 ^ 62)<=lo)(h2:lo<2 ^ 62)(h3:-(2 ^ 62)<=hi)(h4:hi<2 ^ 62)(q:R (Itr lo (hi - lo).toNat) H):wpAny (model X.prog X.w) X.A (pyIter (.ref s.heap.objs.size)) (PIE X pins σ tg R) E { s with heap:=s.heap.push { cls:=.type "range", data:=.fields #[.int lo t,.int hi u,.int 1 v] },toks:=tk }:=by
 refine wpAny_pyIter_range (IsRange.new ..) (small_one h1 h2 h3 h4) ?_
 have I1:Inv X pins σ H { s with heap:=s.heap.push { cls:=.type "range", data:=.fields #[.int lo t,.int hi u,.int 1 v] },toks:=tk }:=I.kept fun b o e=>Heap.get?_push_of_some _ e
 refine⟨(s.heap.push { cls:=.type "range", data:=.fields #[.int lo t,.int hi u,.int 1 v] }).objs.size,[(s.heap.push { cls:=.type "range", data:=.fields #[.int lo t,.int hi u,.int 1 v] }).objs.size],_,_,H,rfl,
  I1.kept (t':=tk) fun b o e=>Heap.get?_push_of_some _ e,turn_range _ lo (hi - lo).toNat,?_,fun b hb=>?_,q⟩
 ·have e1:lo+((0:Nat):Int)*1=lo:=by simp
  have e2:(((hi - lo).toNat:Nat):Int) - ((0:Nat):Int)=Builtin.Range.rangeSize lo hi 1:=by rw[rangeSize_one];split<;>omega
  show IsRangeIter _ _ (lo+((0:Nat):Int)*1) ((((hi - lo).toNat:Nat):Int) - ((0:Nat):Int)) 1
  rw[e1,e2]
  exact Heap.get?_push_size _ rfl
 ·have e:b=(s.heap.push { cls:=.type "range", data:=.fields #[.int lo t,.int hi u,.int 1 v] }).objs.size:=by simpa using hb
  subst e
  exact I1.fpOk (Nat.le_refl _) (I1.hok.fresh (Nat.le_refl _))
def iRng1 (ta:TA):TI:=fun σ H R=>ta σ H fun vs H1=>∃j:Int,vs=[.int j]/\-(2 ^ 62)<=j/\j<2 ^ 62/\R (Itr 0 j.toNat) H1
theorem pi_range1 {a:Expr}{ta:TA}{p pos:Pos} (hg:Gl X "range") (hm:X.mg "range" = none) (ha:PA X [a] ta) (hs:starEach [a] X.env=[(false,eval a X.env)]:=by rfl):PI X tg (.Call (.Name "range" p) [a] [] pos) (iRng1 ta):=by
 intro pins s σ H R I h
 refine Call_ (ld_blt I hg hm boot_range (PyProof.Rows.callWith_type1 (thn (ha pos pins s σ H _ I h) fun us s1 ⟨vs,H1,I1,r1,q1⟩=>?_) hs rfl))
 obtain⟨j,e,q1,q2,q⟩:=q1
 subst e
 cases r1 with
 |cons r rr =>
  cases rr
  obtain⟨t,rfl⟩:=r
  exact call_range_1 (range_it I1 (by omega) (by omega) q1 q2 (by simpa using q))
def tFor (wi:TI)(g:TG)(tb:TS):TS:=fun D σ H=>wi σ H fun J H1=>∃W:Nat->Nat->St->Hp->Prop,(∃m,W 0 m σ H1)/\∀i m σ H,W i m σ H ->
 (J.stop i H/\D.nx σ H)\/(J.go i H/\∃N:St->Hp->Prop,(∀σ' H',N σ' H'->∃m',m'<m/\W (i+1) m' σ' H')/\∀x H',J.yld i H x H'->g x σ H' fun σ2 H2=>tb { D with nx:=N,ct:=N,bk:=D.nx } σ2 H2)
def pinsAt (fp:List Addr)(h:Heap):List (Addr×Obj):=fp.filterMap fun b=>(h.get? b).map fun o=>(b,o)
theorem Yn {fp:List Addr}{h:Heap}{b:Addr}{o:Obj}(hb:b∈fp)(e:h.get? b=some o):(b,o)∈pinsAt fp h:=List.mem_filterMap.mpr ⟨b,hb,by rw[e];rfl⟩
theorem of_pinsAt {fp:List Addr}{h:Heap}{p:Addr×Obj}(hp:p∈pinsAt fp h):p.1∈fp/\h.get? p.1=some p.2:=by
 obtain⟨b,hb,e⟩:=List.mem_filterMap.mp hp
 cases q:h.get? b with
 |none=>rw[q] at e;cases e
 |some o =>
  rw[q] at e
  have e':(b,o)=p:=Option.some.inj e
  subst e'
  exact⟨hb,q⟩
theorem Inv.pinned {pins:List (Addr×Obj)}{σ:St}{H:Hp}{s:Shared}{fp:List Addr}(I:Inv X pins σ H s)(hf:∀b∈fp,FpOk X pins H b)(ho:∀b∈fp,∃o,s.heap.get? b=some o/\∀v,o.data≠.cell v):Inv X (pins++pinsAt fp s.heap) σ H s :=
 I.pins_of fun p hp=>(List.mem_append.mp hp).elim (fun z=>I.pin p (List.mem_append_right _ z)) fun z=>by
  obtain⟨hb,e⟩:=of_pinsAt z
  obtain⟨f0,f1,f2,_⟩:=hf p.1 hb
  obtain⟨o,e',d⟩:=ho p.1 hb
  rw[e] at e';cases e'
  exact⟨e,f0,f1,f2,d⟩
theorem Inv.unpinned {pins pl:List (Addr×Obj)}{σ:St}{H:Hp}{s:Shared}(I:Inv X (pins++pl) σ H s):Inv X pins σ H s:=I.pins_of fun p hp=>I.pin p (List.mem_append_right _ (List.mem_append_left _ hp))
theorem ps_for {iter:Expr}{body:List Stmt}{wi:TI}{g:TG}{tb:TS}{pos:Pos}(hp:PassesOwn (model X.prog X.w) X.A X.env X.xe)(hc:X.calm=true)(hi:PI X tg iter wi)(hg:PG X tg g)(hb:PSs X body tb)(hs:∀x,foldedSetIterable iter X.env x=pure x:=by intro _;rfl):PS X (.For tg iter body [] pos) (tFor wi g tb):=by
 intro pins s σ H D I h
 refine wpAny_For (thn (hi pins s σ H _ I h) fun v s1 h1=>thn h1 fun itv s2 h2=>?_) hs
 obtain⟨it,fp,tn,J,H2,e,I2,T,st2,f2,W,⟨m0,w0⟩,turn⟩:=h2
 subst e
 have stat:∀{H':Hp},(∀b∈fp,H' b=none)->∀b∈fp,FpOk X pins H' b:=fun hn b hb=>⟨hn b hb,(f2 b hb).2⟩
 refine codeAny_forLoop_any (fun n s'=>∃i σ' H',Inv X pins σ' H' s'/\tn i s'.heap/\(∀b∈fp,H' b=none)/\W i n σ' H') ?_ m0 ⟨0,σ,H2,I2,st2,fun b hb=>(f2 b hb).1,w0⟩
 rintro n s3 ⟨i,σ3,H3,I3,st3,fr3,w3⟩
 rcases turn i n σ3 H3 w3 with⟨stop,qn⟩|⟨go,N,hN,step⟩
 ·refine wpAny_passesOwn hp (thn (T.done X rfl rfl rfl hc i pins s3 σ3 H3 X.xe I3 (stat fr3) st3 stop) fun r s4 ⟨hr,I4⟩=>?_)
  subst hr
  exact wpAny_execs_nil ⟨σ3,H3,I4,qn⟩
 ·refine wpAny_passesOwn hp (thn (T.item X rfl rfl rfl hc i pins s3 σ3 H3 X.xe I3 (stat fr3) st3 go) fun r s4 ⟨u,hr,h4⟩=>?_)
  subst hr
  refine wpAny_passesOwn hp (thn h4 fun _ s5 ⟨x,H5,I5,r5,y5,st5,fr5⟩=>?_)
  have I5':=I5.pinned (stat fr5) (T.obj _ _ st5)
  refine wpAny_passesOwn hp (thn (hg _ s5 σ3 H5 x u _ I5' r5 (step x H5 y5)) fun _ s6 ⟨σ6,H6,I6,q6⟩=>?_)
  refine wpAny_passesOwn hp (thn (hb _ s6 σ6 H6 _ I6 q6) fun f s7 q7=>?_)
  have again:∀{σ7:St} {H7:Hp},Inv X (pins++pinsAt fp s5.heap) σ7 H7 s7->N σ7 H7->∃m,m<n/\∃i σ' H',Inv X pins σ' H' s7/\tn i s7.heap/\(∀b∈fp,H' b=none)/\W i m σ' H':=fun {σ7 H7} I7 n7=>by
   obtain⟨m',hm,w7⟩:=hN σ7 H7 n7
   refine⟨m',hm,i+1,σ7,H7,I7.unpinned,T.keep _ _ _ st5 fun b hb o e=>(I7.pin (b,o) (List.mem_append_right _ (List.mem_append_right _ (Yn hb e)))).1,fun b hb=>?_,w7⟩
   obtain⟨o,e,d⟩:=T.obj _ _ st5 b hb
   exact(I7.pin (b,o) (List.mem_append_right _ (List.mem_append_right _ (Yn hb e)))).2.1
  cases f with
  |next=>obtain⟨σ7,H7,I7,n7⟩:=q7;exact again I7 n7
  |cont=>obtain⟨σ7,H7,I7,n7⟩:=q7;exact again I7 n7
  |brk=>obtain⟨σ7,H7,I7,q7⟩:=q7;exact⟨σ7,H7,I7.unpinned,q7⟩
  |ret v=>obtain⟨x7,σ7,H7,I7,r7,q7⟩:=q7;exact⟨x7,σ7,H7,I7.unpinned,r7,q7⟩
end
abbrev R2:=V->V->Hp->VK->Prop
def OpR (X:Cx)(f:Value->Value->Sem Value)(r:R2):Prop :=
 ∀(pins:List (Addr×Obj)) (s:Shared) (σ:St) (H:Hp) (x y:V) (v u:Value) (Q:VK),Inv X pins σ H s->RelV x v->RelV y u->r x y H Q ->
  wpAny (model X.prog X.w) X.A (f v u) (EP X pins σ Q) X.xe s
def UnR (X:Cx)(f:Value->Sem Value)(r:V->Hp->VK->Prop):Prop :=
 ∀(pins:List (Addr×Obj)) (s:Shared) (σ:St) (H:Hp) (x:V) (v:Value) (Q:VK),Inv X pins σ H s->RelV x v->r x H Q ->
  wpAny (model X.prog X.w) X.A (f v) (EP X pins σ Q) X.xe s
def CallR (X:Cx)(f:Value)(r:List V->Hp->VK->Prop):Prop :=
 ∀(pins:List (Addr×Obj)) (s:Shared) (σ:St) (H:Hp) (xs:List V) (us:List Value) (Q:VK),Inv X pins σ H s->Vals xs us->r xs H Q ->
  wpAny (model X.prog X.w) X.A (call f us) (EP X pins σ Q) X.xe s
def tOp (r:R2)(ta tb:TE):TE:=fun σ H Q=>ta σ H fun x H1=>tb σ H1 fun y H2=>r x y H2 Q
def tUn (r:V->Hp->VK->Prop)(ta:TE):TE:=fun σ H Q=>ta σ H fun x H1=>r x H1 Q
def rI (C:Int->Int->Prop)(g:Int->Int->V):R2:=fun x y H Q=>∃i j,x=.int i/\y=.int j/\C i j/\Q (g i j) H
def rI0 (g:Int->Int->V):R2:=fun x y H Q=>∃i j,x=.int i/\y=.int j/\Q (g i j) H
def rU (g:Int->V):V->Hp->VK->Prop:=fun x H Q=>∃i,x=.int i/\Q (g i) H
section
variable {X:Cx} {a b c:Expr} {ta tb tc:TE} {pos:Pos}
theorem binT (ha:PE X a ta)(hb:PE X b tb){pins:List (Addr×Obj)}{s:Shared}{σ:St}{H:Hp}{R:V->V->Hp->Prop}(I:Inv X pins σ H s)(h:ta σ H fun x H1=>tb σ H1 fun y H2=>R x y H2){Q:Value->Shared->Prop}{f:Value->Value->Sem Value}(hf:∀v u s2 x y H2,Inv X pins σ H2 s2->RelV x v->RelV y u->R x y H2->wpAny (model X.prog X.w) X.A (f v u) Q X.xe s2) :
  wpAny (model X.prog X.w) X.A (eval a X.env) (fun v s₁=>wpAny (model X.prog X.w) X.A (eval b X.env) (fun u s₂=>wpAny (model X.prog X.w) X.A (f v u) Q X.xe s₂) X.xe s₁) X.xe s:=by
 refine thn (ha pins s σ H _ I h) fun v s1 ⟨x,H1,I1,r1,q1⟩=>?_
 refine thn (hb pins s1 σ H1 _ I1 q1) fun u s2 ⟨y,H2,I2,r2,q2⟩=>?_
 exact hf v u s2 x y H2 I2 r1 r2 q2
theorem pe_op {op:Operator}{r:R2}(ho:OpR X (binaryOp op) r)(ha:PE X a ta)(hb:PE X b tb):PE X (.BinOp a op b pos) (tOp r ta tb):=by
 intro pins s σ H Q I h
 exact wpAny_BinOp (binT ha hb I h fun v u s2 x y H2 I2 rx ry q=>ho pins s2 σ H2 x y v u Q I2 rx ry q)
theorem pe_un {op:UnaryOp}{r:V->Hp->VK->Prop}(ho:UnR X (unaryOp op) r)(ha:PE X a ta):PE X (.UnaryOp op a pos) (tUn r ta):=by
 intro pins s σ H Q I h
 exact UnaryOp_ (thn (ha pins s σ H _ I h) fun v s1 ⟨x,H1,I1,r1,q1⟩=>ho pins s1 σ H1 x v Q I1 r1 q1)
theorem opI {f:Value->Value->Sem Value}{C:Int->Int->Prop}{g:Int->Int->Int}(rule:∀(i j:Int) (t u:Tok) (s:Shared) (Q:Value->Shared->Prop) (E:Value->Shared->Prop),C i j->Q (.int (g i j) s.toks) { s with toks:=s.toks+1 }->wpAny (model X.prog X.w) X.A (f (.int i t) (.int j u)) Q E s) :
  OpR X f (rI C fun i j=>.int (g i j)):=by
 intro pins s σ H x y v u Q I rx ry h
 obtain⟨i,j,rfl,rfl,hc,q⟩:=h
 obtain⟨t,rfl⟩:=rx
 obtain⟨t',rfl⟩:=ry
 exact rule i j t t' s _ _ hc ⟨.int (g i j),H,I.tok _,⟨_,rfl⟩,q⟩
theorem opI0 {f:Value->Value->Sem Value}{g:Int->Int->Int}(rule:∀(i j:Int) (t u:Tok) (s:Shared) (Q:Value->Shared->Prop) (E:Value->Shared->Prop),Q (.int (g i j) s.toks) { s with toks:=s.toks+1 }->wpAny (model X.prog X.w) X.A (f (.int i t) (.int j u)) Q E s) :
  OpR X f (rI0 fun i j=>.int (g i j)):=by
 intro pins s σ H x y v u Q I rx ry h
 obtain⟨i,j,rfl,rfl,q⟩:=h
 obtain⟨t,rfl⟩:=rx
 obtain⟨t',rfl⟩:=ry
 exact rule i j t t' s _ _ ⟨.int (g i j),H,I.tok _,⟨_,rfl⟩,q⟩
theorem opB0 {f:Value->Value->Sem Value}{g:Int->Int->Bool}(rule:∀(i j:Int) (t u:Tok) (s:Shared) (Q:Value->Shared->Prop) (E:Value->Shared->Prop),Q (.bool (g i j)) s->wpAny (model X.prog X.w) X.A (f (.int i t) (.int j u)) Q E s) :
  OpR X f (rI0 fun i j=>.bl (g i j)):=by
 intro pins s σ H x y v u Q I rx ry h
 obtain⟨i,j,rfl,rfl,q⟩:=h
 obtain⟨t,rfl⟩:=rx
 obtain⟨t',rfl⟩:=ry
 exact rule i j t t' s _ _ ⟨.bl (g i j),H,I,rfl,q⟩
def CPow (i j:Int):Prop:=0<=j/\j<=1000000/\i.natAbs<2 ^ 64
theorem op_add:OpR X (binaryOp .Add) (rI0 fun i j=>.int (i+j)):=opI0 fun _ _ _ _ _ _ _ q=>add_int q
theorem op_sub:OpR X (binaryOp .Sub) (rI0 fun i j=>.int (i - j)):=opI0 fun _ _ _ _ _ _ _ q=>sub_int q
theorem op_modN:OpR X (binaryOp .Mod) (rI (fun _ j=>j≠0) fun i j=>.int (i.fmod j)):=opI fun _ _ _ _ _ _ _ hc q=>mod_int' hc q
theorem op_pow:OpR X (binaryOp .Pow) (rI CPow fun i j=>.int (i ^ j.toNat)):=opI fun _ _ _ _ _ _ _ hc q=>pow_int_small hc.1 hc.2.1 hc.2.2 q
theorem unI {f:Value->Sem Value}{g:Int->Int}(rule:∀(i:Int) (t:Tok) (s:Shared) (Q:Value->Shared->Prop) (E:Value->Shared->Prop),Q (.int (g i) s.toks) { s with toks:=s.toks+1 }->wpAny (model X.prog X.w) X.A (f (.int i t)) Q E s) :
  UnR X f (rU fun i=>.int (g i)):=by
 intro pins s σ H x v Q I rx h
 obtain⟨i,rfl,q⟩:=h
 obtain⟨t,rfl⟩:=rx
 exact rule i t s _ _ ⟨.int (g i),H,I.tok _,⟨_,rfl⟩,q⟩
theorem un_neg:UnR X (unaryOp .USub) (rU fun i=>.int (-i)):=unI fun _ _ _ _ _ q=>neg_int q
end
def scal:V->V->Bool
 |.non,.non=>true | .non,.int _=>true | .int _,.non=>true | .non,.bl _=>true | .bl _,.non=>true | .non,.str _=>true | .str _,.non=>true
 |.int _,.int _=>true | .bl _,.bl _=>true | .str _,.str _=>true | .byt _,.byt _=>true
 |.int _,.str _=>true | .str _,.int _=>true | .bl _,.str _=>true | .str _,.bl _=>true
 |_,_=>false
def rEq:R2:=fun x y H Q=>scal x y=true/\Q (.bl (decide (x=y))) H
def rNe:R2:=fun x y H Q=>scal x y=true/\Q (.bl (!decide (x=y))) H
theorem dec_int {i j:Int}:decide (V.int i=V.int j)=(i==j):=by
 rw[Bool.eq_iff_iff]
 simp
theorem dec_bl {i j:Bool}:decide (V.bl i=V.bl j)=(i==j):=by
 rw[Bool.eq_iff_iff]
 simp
theorem dec_str {i j:Str}:decide (V.str i=V.str j)=(i==j):=by
 rw[Bool.eq_iff_iff]
 simp
theorem dec_byt {i j:Array UInt8}:decide (V.byt i=V.byt j)=(i.toList==j.toList):=by
 rw[Bool.eq_iff_iff]
 cases i
 cases j
 simp
section
variable {X:Cx} {a b c:Expr} {ta tb tc:TE} {pos:Pos}
theorem Z3 {pins:List (Addr×Obj)}{σ:St}{H:Hp}{s:Shared}{Q:VK}{k k':Bool}(I:Inv X pins σ H s)(q:Q (.bl k) H)(e:k=k'):EP X pins σ Q (.bool k') s:=by
 subst e
 exact⟨.bl k,H,I,rfl,q⟩
theorem op_eq:OpR X (compareOp .Eq) rEq:=by
 intro pins s σ H x y v u Q I rx ry h
 obtain⟨hs,q⟩:=h
 cases x with
 |non =>
  cases rx
  cases y with
  |non=>cases ry;exact PySem.EqNone.eq_none_none (Z3 I q (by simp))
  |bl j=>cases ry;exact PySem.EqNone.eq_none_bool (Z3 I q (by simp))
  |int j=>obtain⟨t',rfl⟩:=ry;exact PySem.EqNone.eq_none_int (Z3 I q (by simp))
  |str j=>obtain⟨t',rfl⟩:=ry;exact PySem.EqNone.eq_none_str (Z3 I q (by simp))
  |_=>exact absurd (show false=true from hs) Bool.false_ne_true
 |bl i =>
  cases rx
  cases y with
  |non=>cases ry;exact PySem.EqNone.eq_bool_none (Z3 I q (by simp))
  |bl j=>cases ry;exact eq_bool (Z3 I q dec_bl)
  |str j=>obtain⟨t',rfl⟩:=ry;exact PySem.EqMixed.eq_bool_str (Z3 I q (by simp))
  |_=>exact absurd (show false=true from hs) Bool.false_ne_true
 |int i =>
  obtain⟨t,rfl⟩:=rx
  cases y with
  |non=>cases ry;exact PySem.EqNone.eq_int_none (Z3 I q (by simp))
  |int j=>obtain⟨t',rfl⟩:=ry;exact eq_int (Z3 I q dec_int)
  |str j=>obtain⟨t',rfl⟩:=ry;exact PySem.EqMixed.eq_int_str (Z3 I q (by simp))
  |_=>exact absurd (show false=true from hs) Bool.false_ne_true
 |str i =>
  obtain⟨t,rfl⟩:=rx
  cases y with
  |non=>cases ry;exact PySem.EqNone.eq_str_none (Z3 I q (by simp))
  |bl j=>cases ry;exact PySem.EqMixed.eq_str_bool (Z3 I q (by simp))
  |int j=>obtain⟨t',rfl⟩:=ry;exact PySem.EqMixed.eq_str_int (Z3 I q (by simp))
  |str j=>obtain⟨t',rfl⟩:=ry;exact eq_str (Z3 I q dec_str)
  |_=>exact absurd (show false=true from hs) Bool.false_ne_true
 |byt i =>
  obtain⟨t,rfl⟩:=rx
  cases y with
  |byt j=>obtain⟨t',rfl⟩:=ry;exact PySem.W.eq_bytes (Z3 I q dec_byt)
  |_=>exact absurd (show false=true from hs) Bool.false_ne_true
 |_=>cases y<;>exact absurd (show false=true from hs) Bool.false_ne_true
theorem op_ne:OpR X (compareOp .NotEq) rNe:=by
 intro pins s σ H x y v u Q I rx ry h
 obtain⟨hs,q⟩:=h
 cases x with
 |non =>
  cases rx
  cases y with
  |non=>cases ry;exact PySem.EqNone.ne_none_none (Z3 I q (by simp))
  |bl j=>cases ry;exact PySem.EqNone.ne_none_bool (Z3 I q (by simp))
  |int j=>obtain⟨t',rfl⟩:=ry;exact PySem.EqNone.ne_none_int (Z3 I q (by simp))
  |str j=>obtain⟨t',rfl⟩:=ry;exact PySem.EqNone.ne_none_str (Z3 I q (by simp))
  |_=>exact absurd (show false=true from hs) Bool.false_ne_true
 |bl i =>
  cases rx
  cases y with
  |non=>cases ry;exact PySem.EqNone.ne_bool_none (Z3 I q (by simp))
  |bl j=>cases ry;exact ne_bool (Z3 I q (congrArg not dec_bl))
  |str j=>obtain⟨t',rfl⟩:=ry;exact PySem.EqMixed.ne_bool_str (Z3 I q (by simp))
  |_=>exact absurd (show false=true from hs) Bool.false_ne_true
 |int i =>
  obtain⟨t,rfl⟩:=rx
  cases y with
  |non=>cases ry;exact PySem.EqNone.ne_int_none (Z3 I q (by simp))
  |int j=>obtain⟨t',rfl⟩:=ry;exact ne_int (Z3 I q (congrArg not dec_int))
  |str j=>obtain⟨t',rfl⟩:=ry;exact PySem.EqMixed.ne_int_str (Z3 I q (by simp))
  |_=>exact absurd (show false=true from hs) Bool.false_ne_true
 |str i =>
  obtain⟨t,rfl⟩:=rx
  cases y with
  |non=>cases ry;exact PySem.EqNone.ne_str_none (Z3 I q (by simp))
  |bl j=>cases ry;exact PySem.EqMixed.ne_str_bool (Z3 I q (by simp))
  |int j=>obtain⟨t',rfl⟩:=ry;exact PySem.EqMixed.ne_str_int (Z3 I q (by simp))
  |str j=>obtain⟨t',rfl⟩:=ry;exact ne_str (Z3 I q (congrArg not dec_str))
  |_=>exact absurd (show false=true from hs) Bool.false_ne_true
 |byt i =>
  obtain⟨t,rfl⟩:=rx
  cases y with
  |byt j=>obtain⟨t',rfl⟩:=ry;exact PySem.W.ne_bytes (Z3 I q (congrArg not dec_byt))
  |_=>exact absurd (show false=true from hs) Bool.false_ne_true
 |_=>cases y<;>exact absurd (show false=true from hs) Bool.false_ne_true
theorem op_lt:OpR X (compareOp .Lt) (rI0 fun i j=>.bl (decide (i<j))):=opB0 fun _ _ _ _ _ _ _ q=>lt_int q
theorem op_le:OpR X (compareOp .LtE) (rI0 fun i j=>.bl (decide (i<=j))):=opB0 fun _ _ _ _ _ _ _ q=>le_int q
theorem op_gt:OpR X (compareOp .Gt) (rI0 fun i j=>.bl (decide (j<i))):=opB0 fun _ _ _ _ _ _ _ q=>gt_int q
theorem op_ge:OpR X (compareOp .GtE) (rI0 fun i j=>.bl (decide (j<=i))):=opB0 fun _ _ _ _ _ _ _ q=>ge_int q
theorem op_in_str:OpR X (compareOp .In) (fun x y H Q=>∃i j,x=.str i/\y=.str j/\Q (.bl (!(Builtin.Str.occurrences j i 0 j.length 1).isEmpty)) H):=by
 intro pins s σ H x y v u Q I rx ry h
 obtain⟨i,j,rfl,rfl,q⟩:=h
 obtain⟨t,rfl⟩:=rx
 obtain⟨t',rfl⟩:=ry
 exact in_str (Z3 I q rfl)
theorem op_isN:OpR X (compareOp .Is) (fun x y H Q=>y=.non/\Q (.bl (decide (x=.non))) H):=by
 intro pins s σ H x y v u Q I rx ry h
 obtain⟨rfl,q⟩:=h
 cases ry
 refine is_none_gen (Z3 I q ?_)
 cases x<;>first
  |(cases rx;rfl)
  |(obtain⟨t,rfl⟩:=rx;rfl)
theorem op_notin_str:OpR X (compareOp .NotIn) (fun x y H Q=>∃i j,x=.str i/\y=.str j/\Q (.bl (!(!(Builtin.Str.occurrences j i 0 j.length 1).isEmpty))) H):=by
 intro pins s σ H x y v u Q I rx ry h
 obtain⟨i,j,rfl,rfl,q⟩:=h
 obtain⟨t,rfl⟩:=rx
 obtain⟨t',rfl⟩:=ry
 exact notIn_str (Z3 I q rfl)
theorem OpR.or {f:Value->Value->Sem Value}{r r':R2}(h:OpR X f r)(h':OpR X f r'):OpR X f (fun x y H Q=>r x y H Q\/r' x y H Q):=by
 intro pins s σ H x y v u Q I rx ry q
 rcases q with q|q
 ·exact h pins s σ H x y v u Q I rx ry q
 ·exact h' pins s σ H x y v u Q I rx ry q
theorem Zq (b:Expr){op:CmpOp}(h:op≠.In:=by decide)(h2:op≠.NotIn:=by decide):behindInMarks op b=false:=by
 have e1:(op==CmpOp.In)=false:=by cases op<;>first|rfl|exact absurd rfl h
 have e2:(op==CmpOp.NotIn)=false:=by cases op<;>first|rfl|exact absurd rfl h2
 cases b<;>simp[behindInMarks,e1,e2]
theorem pe_cmpR {op:CmpOp}{r:R2}(ho:OpR X (compareOp op) r)(ha:PE X a ta)(hb:PE X b tb)(hm:behindInMarks op b=false):PE X (.Compare a [op] [b] pos) (tOp r ta tb):=by
 intro pins s σ H Q I h
 exact wpAny_Compare1 (binT ha hb I h fun v u s2 x y H2 I2 rx ry q=>ho pins s2 σ H2 x y v u Q I2 rx ry q) hm
def tTest (t:TE):TT:=fun σ H Q=>t σ H fun x H'=>∃k,x=.bl k/\Q k H'
theorem pt_cmpR {op:CmpOp}{r:R2}(ho:OpR X (compareOp op) r)(ha:PE X a ta)(hb:PE X b tb)(hm:behindInMarks op b=false):PT X (.Compare a [op] [b] pos) (tTest (tOp r ta tb)):=by
 intro pins s σ H Q I h
 refine wpAny_isTrue_Compare1 (thn (ha pins s σ H _ I h) fun v s1 ⟨x,H1,I1,r1,q1⟩=>thn (hb pins s1 σ H1 _ I1 q1) fun u s2 ⟨y,H2,I2,r2,q2⟩ =>
  thn (ho pins s2 σ H2 x y v u _ I2 r1 r2 q2) fun c s3 ⟨z,H3,I3,r3,k,e,q3⟩=>?_) hm
 subst e
 cases r3
 exact wpAny_truthy_bool ⟨H3,I3,q3⟩
theorem line63:(sizeLine:Nat)<2 ^ 63:=by rw[sizeLine_eq];decide
theorem op_add_str:OpR X (binaryOp .Add) (fun x y H Q=>∃i j,x=.str i/\y=.str j/\i.length+j.length<=sizeLine/\Q (.str (i++j)) H):=by
 intro pins s σ H x y v u Q I rx ry h
 obtain⟨i,j,rfl,rfl,hz,q⟩:=h
 obtain⟨t,rfl⟩:=rx
 obtain⟨t',rfl⟩:=ry
 exact add_str (fun t' tk=>⟨.str (i++j),H,I.tok _,⟨_,rfl⟩,q⟩) hz
theorem vals1 {x:V}{us:List Value}(r:Vals [x] us):∃u,us=[u]/\RelV x u:=by
 cases r with
 |cons r1 r2=>cases r2;exact⟨_,rfl,r1⟩
theorem vals2 {x y:V}{us:List Value}(r:Vals [x,y] us):∃u w',us=[u,w']/\RelV x u/\RelV y w':=by
 cases r with
 |cons r1 r2 =>
  cases r2 with
  |cons r3 r4=>cases r4;exact⟨_,_,rfl,r1,r3⟩
theorem call_abs:CallR X (.builtin "abs") (fun xs H Q=>∃i,xs=[.int i]/\Q (.int (if i<0 then -i else i)) H):=by
 intro pins s σ H xs us Q I r h
 obtain⟨i,rfl,q⟩:=h
 obtain⟨u,rfl,t,rfl⟩:=vals1 r
 exact call_abs_int fun u tk=>⟨.int (if i<0 then -i else i),H,I.tok _,⟨_,rfl⟩,q⟩
theorem call_int1:CallR X (.type "int") (fun xs H Q=>(∃i,xs=[.int i]/\Q (.int i) H)\/∃k,xs=[.bl k]/\Q (.int (if k then 1 else 0)) H):=by
 intro pins s σ H xs us Q I r h
 rcases h with⟨i,rfl,q⟩|⟨k,rfl,q⟩
 ·obtain⟨u,rfl,t,rfl⟩:=vals1 r
  exact call_int_int ⟨.int i,H,I,⟨_,rfl⟩,q⟩
 ·obtain⟨u,rfl,r1⟩:=vals1 r
  cases r1
  exact call_int_bool ⟨.int (if k then 1 else 0),H,I.tok _,⟨_,rfl⟩,q⟩
end
structure ObjM (h:Heap) (x dx C:Addr) (mA:Str->Option Value):Prop where
 obj:h.get? x=some (PySem.W.instObj C dx)
 ns:h.Ns1 dx mA
 ne:dx≠x
theorem lookIn_ns {h:Heap}{dx:Addr}{mA:Str->Option Value}(n:h.Ns1 dx mA):∃od,h.get? dx=some od/\∀name,PySem.W.lookIn name od=some (mA name):=by
 obtain⟨o,es,ep,ho,hd,hk,_,hm⟩:=n
 refine⟨o,ho,fun name=>?_⟩
 have e:=hm name
 unfold nsFind findBy at e
 rw[<-Array.find?_toList] at e
 unfold PySem.W.lookIn
 rw[hd]
 dsimp only
 split
 ·rename_i y q
  rw[q] at e
  exact congrArg some e
 ·rename_i q
  rw[q] at e
  have a:es.toList.any (·.refKey)=false:=by
   rw[List.any_eq_false]
   intro y hy
   obtain⟨z,t,hkey⟩:=hk y (Array.mem_toList_iff.mp hy)
   simp[DictEntry.refKey,hkey]
  have a':¬es.toList.any (·.refKey)=true:=by rw[a];exact Bool.false_ne_true
  rw[if_neg a']
  exact congrArg some e
theorem ObjM.look {h:Heap}{x dx C:Addr}{mA:Str->Option Value}(I:ObjM h x dx C mA):∃od,PySem.W.InstAt h x (PySem.W.instObj C dx) C (some od)/\∀name,PySem.W.lookIn name od=some (mA name) :=
 let ⟨od,ho,hl⟩:=lookIn_ns I.ns
 ⟨od,⟨I.obj,rfl,rfl,ho⟩,hl⟩
section
variable {prog:Program} {w:World} {A:Around} {E:Value->Shared->Prop} {s:Shared} {K:PySem.W.Frag} {x dx C f:Addr} {mA:Str->Option Value} {name:Str} {v:Value}
theorem get_map {expr:Bool}{Q:Value->Shared->Prop}(X:K.In s.heap)(I:ObjM s.heap x dx C mA)(hg:PySem.W.plainGet K C name=true)(hh:PySem.W.hasDictIn K C=true)(ha:PySem.W.findIn K (.ref C) name=some none)(hv:mA name=some v)(hv':PySem.W.handedIn v=true)(h:Q v { s with toks:=s.toks+1 }) :
  wpAny (model prog w) A (getAttr (.ref x) name expr) Q E s:=by
 obtain⟨od,J,hl⟩:=I.look
 exact PySem.W.get_value X J (PySem.W.plainGet_of hg).1 (PySem.W.findObj_own hh ha rfl (by rw[hl,hv])) hv' h
theorem get_meth {pl:Sem Bool}{Q:Value×List Value->Shared->Prop}(X:K.In s.heap)(I:ObjM s.heap x dx C mA)(hg:PySem.W.plainGet K C name=true)(hf:PySem.W.findIn K (.ref C) name=some (some (.ref f)))(ht:PySem.W.isFn K (.ref f)=true)(hv:mA name=none)(h:Q (.ref f,[.ref x]) s) :
  wpAny (model prog w) A (getMethod (.ref x) name pl) Q E s:=by
 obtain⟨od,J,hl⟩:=I.look
 exact PySem.W.method_fn X J (PySem.W.plainGet_of hg).1 (PySem.W.plainGet_of hg).2 hf (beq_iff_eq.mp ht) (by show(PySem.W.lookIn name od).map (·.isSome)=some false;rw[hl,hv];rfl) h
theorem set_map {ns:List Str}{Q:Unit->Shared->Prop}(X:K.In s.heap)(I:ObjM s.heap x dx C mA)
  (hs:PySem.W.findIn K (.ref C) "__setattr__" = some (some (.builtin "object.__setattr__"))) (hp:PySem.W.plainOver K C=true) (ht:PySem.W.takerIn K C name=some none) (hh:PySem.W.hasDictIn K C=true)
  (hw:PySem.Within mA ns) (hsz:ns.length<=sizeLine)
  (h:∀h',ObjM h' x dx C (fun y=>if y=name then some v else mA y)->Heap.SameBut dx s.heap h'->Q () { s with heap:=h',toks:=s.toks+2 }) :
  wpAny (model prog w) A (setAttr (.ref x) name v) Q E s:=by
 obtain⟨od,J,hl⟩:=I.look
 refine PySem.W.set_plain X J hs (PySem.W.osa_open (s:={ s with toks:=s.toks+1 }) (r:=none) X J hp ht fun b=>?_)
 obtain⟨cd,hc,hd'⟩:=PySem.W.any_some hh
 have hx:s.heap.get? x=some ⟨.ref C,some dx,.plain,#[]⟩:=I.obj
 refine wpAny_bind (wpAny_pure (wpAny_bind (wpAny_bind (wpAny_loadPart hx (wpAny_bind (PySem.W.Looks.here (s:={ s with toks:=s.toks+1 }) (PySem.W.looks_clsIn X hc) ?_))))))
 rw[hd']
 refine wpAny_pure (a:=some dx) (wpAny_bind (wpAny_pure (wpAny_bind ?_)))
 refine wpAny_nsSet1 (s:={ s with toks:=s.toks+1 }) I.ns fun h' hn2 hs2=>?_
 obtain⟨oD,esD,epD,hoD,hdD,hcD⟩:=hn2.count (PySem.Within.cons name v hw)
 refine wpAny_bind (wpAny_lookBehind hoD (by rw[hdD];exact pastItsLine_dict (Nat.le_trans hcD (by rw[List.length_cons];omega))) ?_)
 exact wpAny_pure (h _ ⟨(hs2.2 _ (Ne.symm I.ne)).trans I.obj,hn2,I.ne⟩ hs2)
theorem make_map {R:Result->Shared->Prop}{vs:List Value}{kw:List (Str×Value)}(X:K.In s.heap)(hm:PySem.W.makesIn K C=true)
  (hi:PySem.W.findIn K (.ref C) "__init__" = some (some (.ref f))) (hf:PySem.W.typeIn K (.ref f)=some (.type "function"))
  (h:codeAny (model prog w) (A.under (.builtin "type.__call__" ⟨.ref C::vs,kw⟩)) (.call (.ref f) ⟨.ref (s.heap.objs.size+1)::vs,kw⟩) (PySem.W.InitBack (s.heap.objs.size+1) R)
   { s with heap:=(s.heap.push PySem.W.emptyDict).push (PySem.W.instObj C s.heap.objs.size) }) :
  codeAny (model prog w) A (.call (.ref C) ⟨vs,kw⟩) R s:=by
 obtain⟨hh,g,d,t,os⟩:=s
 exact PySem.W.make_core (PySem.W.makes_of X hm) (PySem.W.looks_findIn X hi) (fun self=>PySem.W.bind_fn X self hf) (.inl rfl) h
end
def putF (f:Str)(v:V):List (Str×V)->List (Str×V)
 |[]=>[(f,v)]
 |(g,x)::r=>if g=f then(g,v)::r else(g,x)::putF f v r
theorem lookup_putF (f g:Str)(v:V):∀fs:List (Str×V),(putF f v fs).lookup g=if g=f then some v else fs.lookup g
 |[]=>by
  show List.lookup g [(f,v)]=_
  by_cases h:g=f
  ·have hb:(g==f)=true:=beq_iff_eq.mpr h
   simp only[List.lookup,hb,if_pos h]
  ·have hb:(g==f)=false:=beq_eq_false_iff_ne.mpr h
   simp only[List.lookup,hb,if_neg h]
 |(k,x)::r=>by
  have ih:=lookup_putF f g v r
  rw[show putF f v ((k,x)::r)=(if k=f then(k,v)::r else(k,x)::putF f v r) from rfl]
  by_cases hk:k=f
  ·rw[if_pos hk]
   by_cases h:g=k
   ·have hb:(g==k)=true:=beq_iff_eq.mpr h
    simp only[List.lookup,hb,if_pos (h.trans hk)]
   ·have hb:(g==k)=false:=beq_eq_false_iff_ne.mpr h
    simp only[List.lookup,hb,if_neg (fun e:g=f=>h (e.trans hk.symm))]
  ·rw[if_neg hk]
   by_cases h:g=k
   ·have hb:(g==k)=true:=beq_iff_eq.mpr h
    simp only[List.lookup,hb,if_neg (fun e:g=f=>hk (h.symm.trans e))]
   ·have hb:(g==k)=false:=beq_eq_false_iff_ne.mpr h
    simp only[List.lookup,hb]
    exact ih
theorem keys_putF (f:Str)(v:V):∀fs:List (Str×V),f∈(putF f v fs).map (·.1)/\∀g,g∈fs.map (·.1)->g∈(putF f v fs).map (·.1)
 |[]=>⟨by simp[putF],fun g h=>by simp at h⟩
 |(k,x)::r=>by
  obtain⟨i1,i2⟩:=keys_putF f v r
  rw[show putF f v ((k,x)::r)=(if k=f then(k,v)::r else(k,x)::putF f v r) from rfl]
  by_cases hk:k=f
  ·rw[if_pos hk]
   subst hk
   exact⟨by simp,fun g h=>by simpa using h⟩
  ·rw[if_neg hk]
   refine⟨?_,fun g h=>?_⟩
   ·rw[List.map_cons]
    exact List.mem_cons_of_mem _ i1
   ·rw[List.map_cons] at h ⊢
    rcases List.mem_cons.mp h with e|e
    ·exact List.mem_cons.mpr (.inl e)
    ·exact List.mem_cons_of_mem _ (i2 g e)
theorem length_putF (f:Str)(v:V):∀fs:List (Str×V),(putF f v fs).length<=fs.length+1
 |[]=>by simp[putF]
 |(k,x)::r=>by
  have ih:=length_putF f v r
  rw[show putF f v ((k,x)::r)=(if k=f then(k,v)::r else(k,x)::putF f v r) from rfl]
  by_cases hk:k=f
  ·rw[if_pos hk,List.length_cons,List.length_cons];omega
  ·rw[if_neg hk,List.length_cons,List.length_cons];omega
theorem RelO.some_of {v:V}{o:Option Value}(r:RelO (some v) o):∃u,o=some u/\RelV v u:=by
 cases o with
 |none=>exact(show False from r).elim
 |some u=>exact⟨u,rfl,r⟩
theorem RelO.none_of {o:Option Value}(r:RelO none o):o=none:=by
 cases o with
 |none=>rfl
 |some u=>exact(show False from r).elim
theorem handed_of {v:V}{u:Value}(r:RelV v u):PySem.W.handedIn u=true:=by
 cases v with
 |non=>cases (show u=Value.none from r);rfl
 |bl b=>cases (show u=Value.bool b from r);rfl
 |int i=>obtain⟨t,e⟩:=(show ∃t,u=Value.int i t from r);cases e;rfl
 |str x=>obtain⟨t,e⟩:=(show ∃t,u=Value.str x t from r);cases e;rfl
 |byt b=>obtain⟨t,e⟩:=(show ∃t,u=Value.bytes b t from r);cases e;rfl
 |flt b=>obtain⟨t,e⟩:=(show ∃t,u=Value.float b t from r);cases e;rfl
 |ref a=>cases (show u=Value.ref a from r);rfl
 |ty n=>cases (show u=Value.type n from r);rfl
section
variable {P:Program} {w:World} {H H':Hp} {h h':Heap} {a C dx:Addr} {fs fs':List (Str×V)}
theorem ins_get (hok:HOk P w H h)(e:H a=some (.ins C dx fs)):∃mA,ObjM h a dx C mA/\(∀f,RelO (fs.lookup f) (mA f))/\PySem.Within mA (fs.map (·.1))/\fs.length<=1000/\H dx=some (.own a):=by
 obtain⟨d,z,ne,ob,mA,n,r,q⟩:=(show ObjOk P w H h a (.ins C dx fs) from hok a _ e)
 exact⟨mA,⟨ob,n,ne⟩,r,q,z,d⟩
end
structure Cls (K:PySem.W.Frag) (C:Addr):Prop where
 pg:PySem.W.plainGet K C Str.empty=true
 hd:PySem.W.hasDictIn K C=true
 po:PySem.W.plainOver K C=true
 sa:PySem.W.findIn K (.ref C) "__setattr__" = some (some (.builtin "object.__setattr__"))
theorem Cls.get {K:PySem.W.Frag}{C:Addr}(c:Cls K C)(f:Str):PySem.W.plainGet K C f=true:=c.pg
def NoAttr (K:PySem.W.Frag)(C:Addr)(f:Str):Prop:=PySem.W.findIn K (.ref C) f=some none
theorem NoAttr.taker {K:PySem.W.Frag}{C:Addr}{f:Str}(n:NoAttr K C f):PySem.W.takerIn K C f=some none:=by
 unfold PySem.W.takerIn
 rw[show PySem.W.findIn K (.ref C) f=some none from n]
 rfl
structure Meth (K:PySem.W.Frag) (C:Addr) (m:Str) (f:Addr):Prop where
 at_:PySem.W.findIn K (.ref C) m=some (some (.ref f))
 fn:PySem.W.isFn K (.ref f)=true
 kp:PySem.W.keepIn K (.ref f)=true
section
variable {X:Cx} {pins:List (Addr×Obj)} {σ:St} {H:Hp} {s:Shared} {a C dx:Addr} {fs:List (Str×V)} {f:Str} {v:V} {A:Around} {E:Value->Shared->Prop}
theorem getattr_ok {b:Bool}{Q:Value->Shared->Prop}(I:Inv X pins σ H s)(e:H a=some (.ins C dx fs))(c:Cls X.K C)(n:NoAttr X.K C f)(l:fs.lookup f=some v)(h:∀u s',Inv X pins σ H s'->RelV v u->Q u s'):wpAny (model X.prog X.w) A (getAttr (.ref a) f b) Q E s:=by
 obtain⟨mA,O,r,_,_,_⟩:=ins_get I.hok e
 obtain⟨u,hu,ru⟩:=RelO.some_of (v:=v) (o:=mA f) (by rw[<-l];exact r f)
 exact get_map I.kIn O (c.get f) c.hd n hu (handed_of ru) (h u _ (I.tok _) ru)
theorem getmeth_ok {m:Str}{g:Addr}{pl:Sem Bool}{Q:Value×List Value->Shared->Prop}(I:Inv X pins σ H s)(e:H a=some (.ins C dx fs))(c:Cls X.K C)(k:Meth X.K C m g)(l:fs.lookup m=none)(h:Q (.ref g,[.ref a]) s):wpAny (model X.prog X.w) A (getMethod (.ref a) m pl) Q E s:=by
 obtain⟨mA,O,r,_,_,_⟩:=ins_get I.hok e
 have hn:mA m=none:=RelO.none_of (by rw[<-l];exact r m)
 exact get_meth I.kIn O (c.get m) k.at_ k.fn hn h
theorem setattr_ok {y:V}{u:Value}{Q:Unit->Shared->Prop}(I:Inv X pins σ H s)(e:H a=some (.ins C dx fs))(c:Cls X.K C)(n:NoAttr X.K C f)(hl:fs.length<1000)(ry:RelV y u)(h:∀s',Inv X pins σ (upd H a (.ins C dx (putF f y fs))) s'->Q () s'):wpAny (model X.prog X.w) A (setAttr (.ref a) f u) Q E s:=by
 obtain⟨mA,O,r,wi,_,ho⟩:=ins_get I.hok e
 have hz:(fs.map (·.1)).length<=sizeLine:=by rw[List.length_map,sizeLine_eq];omega
 refine set_map I.kIn O c.sa c.po n.taker c.hd wi hz fun h' O' sb=>h _ ?_
 have hd:∃o,h'.get? dx=some o:=let ⟨o,_,_,e',_⟩:=O'.ns;⟨o,e'⟩
 refine I.write (x:=a) (e:=dx) (by rw[e];exact True.intro) (.inr ho) (fun b q hb z=>(sb.2 b hb).trans z) hd ?_
 refine⟨by rw[Zj O.ne];exact ho,?_,O.ne,O'.obj,_,O'.ns,fun g=>?_,fun g hg=>?_⟩
 ·have:=length_putF f y fs;omega
 ·show RelO ((putF f y fs).lookup g) (if g=f then some u else mA g)
  rw[lookup_putF]
  by_cases q:g=f
  ·rw[if_pos q,if_pos q];exact ry
  ·rw[if_neg q,if_neg q];exact r g
 ·by_cases q:g=f
  ·rw[q];exact(keys_putF f y fs).1
  ·refine(keys_putF f y fs).2 g (wi g fun z=>hg ?_)
   show(if g=f then some u else mA g)=none
   rw[if_neg q];exact z
theorem Inv.made (I:Inv X pins σ H s):Inv X pins σ (upd (upd H s.heap.objs.size (.own (s.heap.objs.size+1))) (s.heap.objs.size+1) (.ins C s.heap.objs.size []))
  { s with heap:=(s.heap.push PySem.W.emptyDict).push (PySem.W.instObj C s.heap.objs.size) }:=by
 have e1:(s.heap.push PySem.W.emptyDict).get? s.heap.objs.size=some PySem.W.emptyDict:=Heap.get?_push_size s.heap rfl
 have e2:((s.heap.push PySem.W.emptyDict).push (PySem.W.instObj C s.heap.objs.size)).get? (s.heap.objs.size+1)=some (PySem.W.instObj C s.heap.objs.size):=by
  have:=Heap.get?_push_size (s.heap.push PySem.W.emptyDict) (o:=PySem.W.instObj C s.heap.objs.size) rfl
  rwa[Heap.size_push] at this
 have e3:(s.heap.push PySem.W.emptyDict).Ns s.heap.objs.size (fun _=>none):=⟨PySem.W.emptyDict,#[],_,e1,rfl,(fun e he=>absurd he (by simp)),fun _=>rfl⟩
 have I1:=I.laid (a:=s.heap.objs.size) (o:=.own (s.heap.objs.size+1)) (h':=s.heap.push PySem.W.emptyDict) (t':=s.toks) (fun b u q=>Heap.get?_push_of_some _ q) (Nat.le_refl _) ⟨_,e1⟩
 refine I1.laid (a:=s.heap.objs.size+1) (o:=.ins C s.heap.objs.size []) (t':=s.toks) (fun b u q=>Heap.get?_push_of_some _ q) (Nat.le_of_eq (Heap.size_push _ _)) ?_
 have ne:s.heap.objs.size≠s.heap.objs.size+1:=Nat.ne_of_lt (Nat.lt_succ_self _)
 refine⟨by rw[Zj ne,Zn],Nat.zero_le _,ne,e2,fun _=>none,(Heap.Ns1.of_empty e3).at fun o q=>Heap.get?_push_of_some _ q,fun _=>True.intro,fun y hy=>absurd rfl hy⟩
theorem attr_of {prog:Program}{w:World}{env:Env}{e:Expr}{f:Str}{pos:Pos}{s:Shared}{Q:Value->Shared->Prop}(hb:attributeBase e f env (eval e env)=eval e env)(h:wpAny (model prog w) A (eval e env) (fun o s₁=>wpAny (model prog w) A (getAttr o f true) Q E s₁) E s):wpAny (model prog w) A (eval (.Attribute e f pos) env) Q E s :=
 Attribute_any_ h (by rw[arm_eval_Attribute,hb])
end
def tFld (K:PySem.W.Frag)(ta:TE)(f:Str):TE:=fun σ H Q=>ta σ H fun x H1=>∃a C dx fs v,x=.ref a/\H1 a=some (.ins C dx fs)/\Cls K C/\NoAttr K C f/\fs.lookup f=some v/\Q v H1
def sFld (K:PySem.W.Frag)(ta tv:TE)(f:Str):TS:=fun D σ H=>tv σ H fun y H1=>ta σ H1 fun x H2=>∃a C dx fs,x=.ref a/\H2 a=some (.ins C dx fs)/\Cls K C/\NoAttr K C f/\fs.length<1000 /\
 D.nx σ (upd H2 a (.ins C dx (putF f y fs)))
section
variable {X:Cx} {o e value:Expr} {f:Str} {pos pos' tpos:Pos} {ta tv:TE}
theorem pe_fld (he:PE X e ta)(hb:attributeBase e f X.env (eval e X.env)=eval e X.env):PE X (.Attribute e f pos) (tFld X.K ta f):=by
 intro pins s σ H Q I h
 refine attr_of hb (thn (he pins s σ H _ I h) fun u s1 ⟨x,H1,I1,rx,a,C,dx,fs,v,ex,ea,c,n,l,q⟩=>?_)
 subst ex
 obtain rfl:u=Value.ref a:=rx
 exact getattr_ok I1 ea c n l fun u' s2 I2 ru=>⟨v,H1,I2,ru,q⟩
theorem ps_fld (ha:PE X o ta)(hv:PE X value tv)(hs:swapsWith value (some (.Attribute o f pos')) pos.line X.env=pure false):PS X (.Assign [.Attribute o f pos'] value pos) (sFld X.K ta tv f):=by
 intro pins s σ H D I h
 refine plainObj_wpAny_Assign_Attribute (thn (hv pins s σ H _ I h) fun u s1 ⟨y,H1,I1,ry,q⟩=>thn (ha pins s1 σ H1 _ I1 q) fun ov s2 ⟨x,H2,I2,rx,a,C,dx,fs,ex,ea,c,n,l,q2⟩=>?_) hs
 subst ex
 obtain rfl:ov=Value.ref a:=rx
 exact setattr_ok I2 ea c n l ry fun s3 I3=>⟨σ,_,I3,q2⟩
end
structure Room (k:Nat) (A:Around):Prop where
 hd:A.handled=none
 dp:A.depth+3*k+5<recursionLimit
 un:A.units+16*k+200<cLine
theorem Room.mono {j k:Nat}{A:Around}(r:Room k A)(h:j<=k):Room j A:=⟨r.hd,by have:=r.dp;omega,by have:=r.un;omega⟩
theorem Room.deeper {k:Nat}{A:Around}(r:Room (k+1) A)(env:Env):Room k (A.deeper env) :=
 ⟨r.hd,by have:=r.dp;show A.depth+1+3*k+5<_;omega,by have:=r.un;show A.units+3+16*k+200<_;omega⟩
theorem make_depth {A:Around}{C:Addr}{us:List Value}{kw:List (Str×Value)}:(A.under (.builtin "type.__call__" ⟨.ref C::us,kw⟩)).depth=A.depth+1:=by
 first|rfl|simp[Around.under,Code.weight,Code.isCreation,Code.isGuard,Code.isCaller,Code.frames,Code.isFrame,guardIds]
theorem make_units {A:Around}{C:Addr}{us:List Value}{kw:List (Str×Value)}:(A.under (.builtin "type.__call__" ⟨.ref C::us,kw⟩)).units=A.units+1:=by
 first|rfl|simp[Around.under,Code.cUnits,Code.frames,Code.isFrame]
theorem Room.make {k:Nat}{A:Around}(r:Room (k+1) A)(C:Addr)(us:List Value)(kw:List (Str×Value)):Room k (A.under (.builtin "type.__call__" ⟨.ref C::us,kw⟩)) :=
 ⟨r.hd,by have:=r.dp;rw[make_depth];omega,by have:=r.un;rw[make_units];omega⟩
theorem Room.depth {k:Nat}{A:Around}(r:Room k A):A.depth<recursionLimit:=by have:=r.dp;omega
theorem Room.units {k:Nat}{A:Around}(r:Room k A):A.units+64<cLine:=by have:=r.un;omega
def tNil:TA:=fun _ H Q=>Q [] H
def tCons (ta:TE)(tr:TA):TA:=fun σ H Q=>ta σ H fun x H1=>tr σ H1 fun xs H2=>Q (x::xs) H2
section
variable {X:Cx} {e:Expr} {es:List Expr} {te:TE} {t:TA} {pos:Pos}
theorem Y7:PA X [] tNil:=fun _ _ _ _ H Q I h=>Calls.spliced_nil ⟨[],H,I,.nil,h⟩
theorem Qp (ha:PE X e te)(hr:PA X es t)(hs:starEach (e::es) X.env=(false,eval e X.env)::starEach es X.env:=by rfl):PA X (e::es) (tCons te t):=by
 intro pos pins s σ H Q I h
 rw[hs]
 show wpAny _ _ (spliced ((false,eval e X.env)::backTo pos (starEach es X.env))) _ _ s
 refine Calls.spliced_cons (thn (ha pins s σ H _ I h) fun u s1 ⟨x,H1,I1,r1,q1⟩=>?_)
 exact thn (hr pos pins s1 σ H1 _ I1 q1) fun us s2 ⟨xs,H2,I2,r2,q2⟩=>⟨x::xs,H2,I2,.cons r1 r2,q2⟩
def tTup (t:TA):TE:=fun σ H Q=>t σ H fun xs H1=>xs.length<=sizeLine/\∀p,H1 p=none->Q (.ref p) (upd H1 p (.tup xs))
def tLst (t:TA):TE:=fun σ H Q=>t σ H fun xs H1=>xs.length<=sizeLine/\∀p,H1 p=none->Q (.ref p) (upd H1 p (.lst xs))
theorem pe_tup {x1}(h:PA X es t):PE X (.Tuple es x1 pos) (tTup t):=by
 intro pins s σ H Q I hq
 refine wpAny_Tuple_spliced (thn (h pos pins s σ H _ I hq) fun us s1 ⟨xs,H1,I1,r,z,q⟩=>⟨by rw[<-r.length];exact z,?_⟩)
 have hf:H1 s1.heap.objs.size=none:=I1.hok.fresh (Nat.le_refl _)
 refine⟨.ref s1.heap.objs.size,upd H1 s1.heap.objs.size (.tup xs),I1.laid (t':=s1.toks) (fun b u e=>Heap.get?_push_of_some _ e) (Nat.le_refl _) ?_,rfl,q _ hf⟩
 exact⟨z,us,r,⟨_,Heap.get?_push_size _ rfl,rfl,_,rfl⟩⟩
theorem pe_lst (h:PA X es t):PE X (.List es pos) (tLst t):=by
 intro pins s σ H Q I hq
 refine wpAny_List_spliced (thn (h pos pins s σ H _ I hq) fun us s1 ⟨xs,H1,I1,r,z,q⟩=>⟨by rw[<-r.length];exact z,?_⟩)
 have hf:H1 s1.heap.objs.size=none:=I1.hok.fresh (Nat.le_refl _)
 refine⟨.ref s1.heap.objs.size,upd H1 s1.heap.objs.size (.lst xs),I1.laid (t':=s1.toks) (fun b u e=>Heap.get?_push_of_some _ e) (Nat.le_refl _) ?_,rfl,q _ hf⟩
 exact⟨z,us,0,r,Heap.get?_push_size _ rfl⟩
end
abbrev Sp:=List V->Hp->VK->XK->Prop
abbrev CXT:=List Env->Hp->Shared->XK->Value->Shared->Prop
structure Env0 (P:Program) (w:World) (K:PySem.W.Frag) (mg:Str->Option Value) (base:Heap) (A:Around) (outer:List Env) (s:Shared) (H:Hp):Prop where
 frames:A.frames=some outer
 mod:Mod K mg base
 bs:∀b o,base.get? b=some o->s.heap.get? b=some o/\H b=none
 bsz:base.objs.size<=s.heap.objs.size
 funs:s.heap.FunFrames base outer
 frf:∀b∈frs outer,H b=none
 hok:HOk P w H s.heap
 bare:AllBare s.gens
def CE (outer:List Env)(P:Program)(w:World)(H:Hp)(s:Shared)(Q:VK)(u:Value)(s':Shared):Prop :=
 ∃v H',s'.os=s.os/\AllBare s'.gens/\Un (frs outer) [] H H' s.heap s'.heap/\HOk P w H' s'.heap/\RelV v u/\Q v H'
def CR (CX:CXT)(outer:List Env)(P:Program)(w:World)(H:Hp)(s:Shared)(Q:VK)(E:XK)(r:Result)(s':Shared):Prop :=
 match r with
 |.ok (.ret u)=>CE outer P w H s Q u s'
 |.ok _=>False
 |.error e=>CX outer H s E e s'
structure FnOk (P:Program) (w:World) (K:PySem.W.Frag) (mg:Str->Option Value) (base:Heap) (CX:CXT) (k:Nat) (f:Addr) (fd:FuncData) (ps:List Str) (sp:Sp):Prop where
 len:∀vs H Q E,sp vs H Q E->vs.length=ps.length
 run:∀(A:Around) (outer:List Env) (s:Shared) (H:Hp) (args:Args) (us:List Value) (vs:List V) (Q:VK) (E:XK),Room k A->Env0 P w K mg base A outer s H->BindsTo s fd args (ps.zip us)->Vals vs us->sp vs H Q E ->
  codeAny (model P w) A (.call (.ref f) args) (CR CX outer P w H s Q E) s
theorem Env0.make {P:Program}{w:World}{K:PySem.W.Frag}{mg:Str->Option Value}{base:Heap}{A:Around}{outer:List Env}{s:Shared}{H:Hp}(e:Env0 P w K mg base A outer s H)(C:Addr)(us:List Value)(kw:List (Str×Value)) :
  Env0 P w K mg base (A.under (.builtin "type.__call__" ⟨.ref C::us,kw⟩)) outer s H:=⟨by first|exact e.frames|(simpa[Around.under,Code.envs,Code.isFrame,pushEnvs] using e.frames),e.mod,e.bs,e.bsz,e.funs,e.frf,e.hok,e.bare⟩
section
variable {X:Cx} {pins:List (Addr×Obj)} {σ:St} {H:Hp} {s s':Shared}
theorem Inv.env0 (I:Inv X pins σ H s):Env0 X.prog X.w X.K X.mg X.base X.A X.stack s H :=
 ⟨I.ok.frames,I.ok.mod,I.bs,Nat.le_trans I.ok.bsz I.sz,I.stack,I.stkFree,I.hok,I.bare⟩
theorem Inv.after {Q:VK}{u:Value}(I:Inv X pins σ H s)(h:CE X.stack X.prog X.w H s Q u s'):EP X pins σ Q u s':=by
 obtain⟨v,H',os,bare,un,hok,r,q⟩:=h
 obtain⟨hh,g,d,t,os'⟩:=s'
 obtain rfl:os'=s.os:=os
 exact⟨v,H',I.call (h':=hh) (g':=g) (d':=d) (t':=t) (ch:=[]) un hok bare (fun b z=>absurd z (by simp)),r,q⟩
end
def tCall (sp:Sp)(dvs:List V)(E:XK)(t:TA):TE:=fun σ H Q=>t σ H fun vs H1=>sp (vs++dvs) H1 Q E
def tMeth (C:Addr)(m:Str)(sp:Sp)(dvs:List V)(E:XK)(ta:TE)(t:TA):TE:=fun σ H Q=>ta σ H fun x H1=>∃a dx fs,x=.ref a/\H1 a=some (.ins C dx fs)/\fs.lookup m=none /\
 t σ H1 fun vs H2=>sp (x::(vs++dvs)) H2 Q E
def tMake (C:Addr)(sp:Sp)(dvs:List V)(E:XK)(t:TA):TE:=fun σ H Q=>t σ H fun vs H1=>∀x dx,H1 x=none->H1 dx=none->dx≠x ->
 sp (.ref x::(vs++dvs)) (upd (upd H1 dx (.own x)) x (.ins C dx [])) (fun v H2=>v=.non/\Q (.ref x) H2) E
def Binds (K:PySem.W.Frag)(fd:FuncData)(ps:List Str)(ds:List Value):Prop :=
 ∀(s:Shared) (us:List Value),K.In s.heap->(us++ds).length=ps.length->BindsTo s fd ⟨us,[]⟩ (ps.zip (us++ds))
theorem Binds.all {K:PySem.W.Frag}{fd:FuncData}{ps:List Str}(h:∀us:List Value,us.length=ps.length->bindArgs fd ⟨us,[]⟩=pure (ps.zip us)):Binds K fd ps []:=fun s us _ hl=>by
 rw[List.append_nil] at hl ⊢
 exact .of_eq (h us hl)
def Xl (CX:CXT)(X:Cx)(E:XK):Prop:=∀(pins:List (Addr×Obj)) (σ:St) (H:Hp) (s:Shared) (e:Value) (s':Shared),Inv X pins σ H s->CX X.stack H s E e s'->X.xe e s'
section
variable {X:Cx} {CX:CXT} {k:Nat} {f C:Addr} {fd:FuncData} {ps:List Str} {sp:Sp} {dvs:List V} {ds:List Value} {E:XK} {x m:Str} {p pos apos:Pos} {e o:Expr} {es:List Expr} {ta:TE} {t:TA}
theorem run_fn {pins:List (Addr×Obj)}{σ:St}{H:Hp}{s:Shared}{Q:VK}{us:List Value}{vs:List V}(F:FnOk X.prog X.w X.K X.mg X.base CX k f fd ps sp)(hr:Room k X.A)(hb:Binds X.K fd ps ds)(hd:Vals dvs ds)(hx:Xl CX X E)(I:Inv X pins σ H s)(r:Vals vs us)(h:sp (vs++dvs) H Q E):wpAny (model X.prog X.w) X.A (call (.ref f) us) (EP X pins σ Q) X.xe s:=by
 have r2:Vals (vs++dvs) (us++ds):=r.append hd
 have hl:(us++ds).length=ps.length:=by rw[<-r2.length];exact F.len _ _ _ _ h
 refine wpAny_call (codeAny_mono (F.run X.A X.stack s H ⟨us,[]⟩ (us++ds) (vs++dvs) Q E hr I.env0 (hb s us I.kIn hl) r2 h) fun r s' hq=>?_)
 cases r with
 |error e=>exact hx pins σ H s e s' I hq
 |ok fl =>
  cases fl with
  |ret u=>exact I.after hq
  |next=>exact False.elim hq
  |brk=>exact False.elim hq
  |cont=>exact False.elim hq
theorem pe_call (F:FnOk X.prog X.w X.K X.mg X.base CX k f fd ps sp)(hr:Room k X.A)(hg:Gl X x)(hm:X.mg x=some (.ref f))(hk:PySem.W.keepIn X.K (.ref f)=true)(hb:Binds X.K fd ps ds)(hd:Vals dvs ds)(hx:Xl CX X E)(ha:PA X (e::es) t) (hdb:(x==("__debug__" : Str))=false:=by decide) (he:starEach (e::es) X.env=(false,eval e X.env)::starEach es X.env:=by rfl) (hpl:(backTo pos (starEach es X.env)).any (·.1)=false:=by rfl) :
  PE X (.Call (.Name x p) (e::es) [] pos) (tCall sp dvs E t):=by
 intro pins s σ H Q I h
 refine wpAny_Call_Name_kw (ld_glob I hg hm ?_ hdb)
 refine PySem.W.callWith_K (h₀:=X.base) I.ok.mod.kin hk (thn (ha pos pins s σ H _ I h) fun us s1 ⟨vs,H1,I1,r,q⟩=>⟨I1.kIn,?_⟩) he hpl
 exact run_fn F hr hb hd hx I1 r q
theorem pe_meth {pl:Sem Bool}(he:PE X o ta)(c:Cls X.K C)(hm:Meth X.K C m f)(F:FnOk X.prog X.w X.K X.mg X.base CX k f fd ps sp)(hr:Room k X.A)(hb:Binds X.K fd ps ds)(hd:Vals dvs ds)(hx:Xl CX X E)(ha:PA X (e::es) t)(hst:starEach (e::es) X.env=(false,eval e X.env)::starEach es X.env:=by rfl)(hpl:(backTo pos (starEach es X.env)).any (·.1)=false:=by rfl)(ht:eval (.Call (.Attribute o m apos) (e::es) [] pos) X.env=(do
   let ov <-eval o X.env
   standAt apos.atName
   let (f,first) <-holding [ov] (getMethod ov m pl)
   callWith pos f first (backTo pos (starEach (e::es) X.env)) (backToKw pos (keywordEach [] X.env))):=by rfl) :
  PE X (.Call (.Attribute o m apos) (e::es) [] pos) (tMeth C m sp dvs E ta t):=by
 intro pins s σ H Q I h
 refine PySem.W.methodCall_KW (pl:=pl) (thn (he pins s σ H _ I h) fun u s1 ⟨x,H1,I1,rx,a,dx,fs,ex,ea,l,q⟩=>?_) ht
 subst ex
 obtain rfl:u=Value.ref a:=rx
 refine getmeth_ok I1 ea c hm l ?_
 refine PySem.W.callWith_K (first:=[.ref a]) (h₀:=X.base) I.ok.mod.kin hm.kp (thn (ha pos pins s1 σ H1 _ I1 q) fun us s2 ⟨vs,H2,I2,r,q2⟩=>⟨I2.kIn,?_⟩) hst hpl
 exact run_fn (us:=.ref a::us) (vs:=.ref a::vs) F hr hb hd hx I2 (.cons rfl r) q2
structure Mk (K:PySem.W.Frag) (C f:Addr):Prop where
 makes:PySem.W.makesIn K C=true
 init:PySem.W.findIn K (.ref C) "__init__" = some (some (.ref f))
 fn:PySem.W.isFn K (.ref f)=true
 kp:PySem.W.keepIn K (.ref C)=true
theorem run_make {pins:List (Addr×Obj)}{σ:St}{H:Hp}{s:Shared}{Q:VK}{us:List Value}{vs:List V}(M:Mk X.K C f)(F:FnOk X.prog X.w X.K X.mg X.base CX k f fd ps sp)(hr:Room (k+1) X.A)(hb:Binds X.K fd ps ds)(hd:Vals dvs ds)(hx:Xl CX X E)(I:Inv X pins σ H s)(r:Vals vs us)(h:∀x dx,H x=none->H dx=none->dx≠x->sp (.ref x::(vs++dvs)) (upd (upd H dx (.own x)) x (.ins C dx [])) (fun v H2=>v=.non/\Q (.ref x) H2) E) :
  wpAny (model X.prog X.w) X.A (call (.ref C) us) (EP X pins σ Q) X.xe s:=by
 have hq:=h (s.heap.objs.size+1) s.heap.objs.size (I.hok.fresh (Nat.le_succ _)) (I.hok.fresh (Nat.le_refl _)) (Nat.ne_of_lt (Nat.lt_succ_self _))
 have I2:=Inv.made (C:=C) I
 have r2:Vals (V.ref (s.heap.objs.size+1)::(vs++dvs)) (Value.ref (s.heap.objs.size+1)::(us++ds)):=.cons rfl (r.append hd)
 have hl:(Value.ref (s.heap.objs.size+1)::us++ds).length=ps.length:=by
  have e:=r2.length
  rw[F.len _ _ _ _ hq] at e
  exact e.symm
 refine wpAny_call (make_map (f:=f) I.kIn M.makes M.init (beq_iff_eq.mp M.fn) (codeAny_mono (F.run _ X.stack _ _ ⟨Value.ref (s.heap.objs.size+1)::us,[]⟩ (Value.ref (s.heap.objs.size+1)::(us++ds)) _ _ E (hr.make C us [])
  (I2.env0.make C us []) (hb _ (Value.ref (s.heap.objs.size+1)::us) I2.kIn hl) r2 hq) fun r s' hq'=>?_))
 cases r with
 |error e=>exact hx pins σ _ _ e s' I2 hq'
 |ok fl =>
  cases fl with
  |ret u =>
   obtain⟨v,H',I3,rv,ev,q3⟩:=I2.after hq'
   subst ev
   exact⟨rv,⟨V.ref (s.heap.objs.size+1),H',I3,rfl,q3⟩⟩
  |next=>exact False.elim hq'
  |brk=>exact False.elim hq'
  |cont=>exact False.elim hq'
theorem pe_make0 (M:Mk X.K C f)(F:FnOk X.prog X.w X.K X.mg X.base CX k f fd ps sp)(hr:Room (k+1) X.A)(hg:Gl X x)(hm:X.mg x=some (.ref C))(hb:Binds X.K fd ps ds)(hd:Vals dvs ds)(hx:Xl CX X E)
  (hdb:(x==("__debug__" : Str))=false:=by decide):PE X (.Call (.Name x p) [] [] pos) (tMake C sp dvs E tNil):=by
 intro pins s σ H Q I h
 refine wpAny_Call_Name_kw (ld_glob I hg hm ?_ hdb)
 exact PySem.W.callWith_K0 I.kIn M.kp (run_make (us:=[]) M F hr hb hd hx I .nil h)
end
structure FnScope (N P:List Str) (sc:Scope):Prop where
 kind:sc.kind=.function
 co:sc.isCoroutine=false
 gen:sc.isGenerator=false
 nd:N.Nodup
 pre:N.take P.length=P
 par:∀x∈P,sc.names.lookup x=some .local\/sc.names.lookup x=some .cell
 nofree:∀y∈sc.names,y.2≠.free
theorem bindL_out {kindOf:Str->Option NameKind}{x:Str}:∀{binds:List (Str×Value)} {m:Str->Option Value},(∀v,(x,v) ∉ binds)->bindL kindOf binds m x=m x
 |[],_,_=>rfl
 |(n,v)::r,m,h=>by
  unfold bindL
  rw[bindL_out fun w hw=>h w (List.mem_cons_of_mem _ hw)]
  split
  ·have:x≠n:=by rintro rfl;exact h v List.mem_cons_self
   simp[this]
  ·rfl
theorem bindC_out {kindOf:Str->Option NameKind}{x:Str}:∀{binds:List (Str×Value)} {m:Str->Option Value},(∀v,(x,v) ∉ binds)->bindC kindOf binds m x=m x
 |[],_,_=>rfl
 |(n,v)::r,m,h=>by
  unfold bindC
  rw[bindC_out fun w hw=>h w (List.mem_cons_of_mem _ hw)]
  split
  ·rfl
  ·have:x≠n:=by rintro rfl;exact h v List.mem_cons_self
   simp[this]
theorem bindL_get {kindOf:Str->Option NameKind}{x:Str}{v:Value}:∀{P:List Str} {vs:List Value} {i:Nat} {m:Str->Option Value},P.Nodup->P[i]?=some x->vs[i]?=some v->kindOf x=some .local ->
  bindL kindOf (P.zip vs) m x=some v
 |[],_,_,_,_,h,_,_=>by simp at h
 |_::_,[],_,_,_,_,h,_=>by simp at h
 |p::P,w::vs,0,m,nd,h1,h2,hk=>by
  simp at h1 h2;subst h1;subst h2
  show bindL kindOf ((p,w)::P.zip vs) m p=_
  unfold bindL
  rw[bindL_out fun v hv=>(List.nodup_cons.mp nd).1 (List.of_mem_zip hv).1,if_pos hk]
  simp
 |p::P,w::vs,i+1,m,nd,h1,h2,hk=>by
  show bindL kindOf ((p,w)::P.zip vs) m x=_
  unfold bindL
  exact bindL_get (i:=i) (List.nodup_cons.mp nd).2 (by simpa using h1) (by simpa using h2) hk
theorem bindC_get {kindOf:Str->Option NameKind}{x:Str}{v:Value}:∀{P:List Str} {vs:List Value} {i:Nat} {m:Str->Option Value},P.Nodup->P[i]?=some x->vs[i]?=some v->kindOf x≠some .local ->
  bindC kindOf (P.zip vs) m x=some v
 |[],_,_,_,_,h,_,_=>by simp at h
 |_::_,[],_,_,_,_,h,_=>by simp at h
 |p::P,w::vs,0,m,nd,h1,h2,hk=>by
  simp at h1 h2;subst h1;subst h2
  show bindC kindOf ((p,w)::P.zip vs) m p=_
  unfold bindC
  rw[bindC_out fun v hv=>(List.nodup_cons.mp nd).1 (List.of_mem_zip hv).1,if_neg hk]
  simp
 |p::P,w::vs,i+1,m,nd,h1,h2,hk=>by
  show bindC kindOf ((p,w)::P.zip vs) m x=_
  unfold bindC
  exact bindC_get (i:=i) (List.nodup_cons.mp nd).2 (by simpa using h1) (by simpa using h2) hk
def Xe (N:List Str)(vs:List V):St:=vs.map some++List.replicate (N.length - vs.length) none
def cxOf (CX:CXT)(P:Program)(w:World)(K:PySem.W.Frag)(mg:Str->Option Value)(base:Heap)(N:List Str)(qual:Str)(scope:Scope)(f:Addr)(cd:Value)(A:Around)(outer:List Env)(s:Shared)(H:Hp)(E:XK):Cx where
 prog:=P
 w:=w
 K:=K
 mg:=mg
 base:=base
 A:=A.deeper (envOfC qual scope s.heap.objs.size f cd)
 N:=N
 s₀:=s
 H₀:=H
 env:=envOfC qual scope s.heap.objs.size f cd
 outer:=outer
 stack:=envOfC qual scope s.heap.objs.size f cd::outer
 ex:=[]
 calm:=true
 fn:=fun _=>true
 pn:=[]
 xe:=fun e s'=>wpAny (model P w) (A.deeper (envOfC qual scope s.heap.objs.size f cd)) (leaving (envOfC qual scope s.heap.objs.size f cd) e) (fun _ s''=>CX outer H s E e s'') (fun e' s''=>CX outer H s E e' s'') s'
theorem cell_has {sc:Scope}{n:Nat}{x:Str}(h:sc.names.lookup x=some .cell):∃c,(cellsFrom n sc.names []).lookup x=some c:=by
 have q:=PySem.W.cellsFrom_some sc.names n [] (.inl h)
 exact Option.isSome_iff_exists.mp q
theorem inv_start {CX:CXT}{P:Program}{w:World}{K:PySem.W.Frag}{mg:Str->Option Value}{base:Heap}{N ps:List Str}{qual:Str}{scope:Scope}{f:Addr}{cd:Value}{A:Around}{outer:List Env}{s s1:Shared}{H:Hp}{E:XK}{us:List Value}{vs:List V}(S:FnScope N ps scope)(hd:A.handled=none)(e0:Env0 P w K mg base A outer s H)(hl:vs.length=ps.length)(r:Vals vs us)(x:InCallC s s.heap.objs.size (bindL (envOfC qual scope s.heap.objs.size f cd).kindOf (ps.zip us) fun _=>none) (cellsFrom (s.heap.objs.size+1) scope.names []) (bindC (envOfC qual scope s.heap.objs.size f cd).kindOf (ps.zip us) fun _=>none) s1) :
  Inv (cxOf CX P w K mg base N qual scope f cd A outer s H E) [] (Xe N vs) H s1:=by
 have hpl:ps.length<=N.length:=by have:=congrArg List.length S.pre;rw[List.length_take] at this;omega
 obtain⟨h1,tk,rfl,hk⟩:=x.done
 have noA:∀b:Addr,b ∉ (cxOf CX P w K mg base N qual scope f cd A outer s H E).ex:=fun b z=>absurd (show b∈([]:List Addr) from z) (by simp)
 refine⟨⟨e0.mod,S.kind,rfl,rfl,Nat.le_refl _,fun y z c h1 h2=>?_,fun y hy=>?_,fun y c _ h=>?_,fun _=>hd,Around.frames_deeper e0.frames,.inr ⟨rfl,rfl⟩,fun b z=>absurd z (noA b),e0.bs,e0.bsz,fun b _ _=>noA b,fun b z=>absurd z (noA b),e0.funs,e0.frf⟩,
  rfl,e0.bare,Un.kept hk,⟨_,x.toInCall.ns,fun i y v h1 h2 h3=>?_⟩,fun y c h=>⟨_,x.cell y c h⟩,e0.hok.fresh (Nat.le_refl _),fun y c h=>?_,fun p hp=>absurd (show p∈([]:List (Addr×Obj)) from hp) (by simp),e0.hok.kept hk,?_⟩
 ·exact name_of_addr x.apart (PySem.mem_of_lookup h1) (PySem.mem_of_lookup h2)
 ·have hy:scope.names.lookup y=some .cell\/scope.names.lookup y=some .free:=hy
  rcases hy with hy|hy
  ·exact cell_has hy
  ·exact absurd rfl (S.nofree _ (PySem.mem_of_lookup hy))
 ·exact Nat.le_of_lt (x.above y c (PySem.mem_of_lookup h))
 ·have hi:i<vs.length:=by
   unfold Xe at h2
   by_cases hi:i<vs.length
   ·exact hi
   ·rw[List.getElem?_append_right (by simpa using hi)] at h2
    rw[List.getElem?_replicate] at h2
    split at h2<;>cases h2
  have ha:vs[i]?=some v:=by
   unfold Xe at h2
   rw[List.getElem?_append_left (by simpa using hi),List.getElem?_map] at h2
   cases e:vs[i]? with
   |none=>rw[e] at h2;cases h2
   |some a=>rw[e] at h2;cases h2;rfl
  obtain⟨u,hu,rv⟩:=r.get ha
  have hp:ps[i]?=some y:=by
   rw[<-S.pre,List.getElem?_take_of_lt (by omega)];exact h1
  have ndP:ps.Nodup:=by rw[<-S.pre];exact S.nd.sublist (List.take_sublist _ _)
  refine⟨u,rv,?_⟩
  rcases S.par y (List.mem_of_getElem? hp) with k|k
  ·exact .inl ⟨k,bindL_get ndP hp hu k⟩
  ·obtain⟨c,e⟩:=cell_has (n:=s.heap.objs.size+1) k
   refine .inr ⟨.inl k,c,e,?_⟩
   have q:=x.cell y c e
   rw[bindC_get ndP hp hu (by show scope.names.lookup y≠_;rw[k];decide)] at q
   exact q
 ·exact e0.hok.fresh (Nat.le_of_lt (x.above y c (PySem.mem_of_lookup h)))
 ·unfold Xe
  show _=N.length
  rw[List.length_append,List.length_map,List.length_replicate]
  omega
theorem fn_of {CX:CXT}{P:Program}{w:World}{K:PySem.W.Frag}{mg:Str->Option Value}{base:Heap}{k:Nat}{f:Addr}{name qual:Str}{params:Arguments}{body:List Stmt}{scope:Scope}{dV kV doc pm cdv ct oc:Value}{an od:Option Addr}{osl:Array (Option Value)}{N ps:List Str}{sp:Sp}(lk:K.lookup f=some ⟨oc,od,.func (PySem.W.fnOf name qual params body scope dV kV doc pm an cdv ct),osl⟩)(hcd:PySem.W.codeIn K cdv qual=true)(S:FnScope N ps scope)(len:∀vs H Q E,sp vs H Q E->vs.length=ps.length)(hbody:∀(A:Around) (outer:List Env) (s:Shared) (H:Hp) (vs:List V) (Q:VK) (E:XK),Room k (A.deeper (envOfC qual scope s.heap.objs.size f cdv))->sp vs H Q E ->
   ∃t,PSs (cxOf CX P w K mg base N qual scope f cdv A outer s H E) body t/\t { nx:=fun _ H'=>Q .non H',rt:=Q } (Xe N vs) H) :
  FnOk P w K mg base CX (k+1) f (PySem.W.fnOf name qual params body scope dV kV doc pm an cdv ct) ps sp:=by
 refine⟨len,fun A outer s H args us vs Q E hr e0 hb r hsp=>?_⟩
 have hl:=len _ _ _ _ hsp
 have KX:K.In s.heap:=e0.mod.kin.keeps fun b o e=>(e0.bs b o e).1
 have lim:s.heap.NoLimit:=e0.mod.nolimit.keeps fun b o e=>(e0.bs b o e).1
 have hkind:∀y∈ps.zip us,scope.names.lookup y.1=some .local\/(scope.names.lookup y.1=some .cell/\((cellsFrom (s.heap.objs.size+1) scope.names []).lookup y.1).isSome=true):=fun⟨n,v⟩ hy=>by
  rcases S.par n (List.of_mem_zip hy).1 with q|q
  ·exact .inl q
  ·exact .inr ⟨q,PySem.W.cellsFrom_some _ _ _ (.inl q)⟩
 refine codeAny_call_function hr.depth (KX _ _ lk) rfl S.co S.gen rfl (PySem.W.codeRec_of KX hcd) (hb _ _ _ _ ?_)
 refine wpAny_newFunctionEnv_cells S.kind hkind fun env he s1 x=>?_
 subst he
 refine⟨lim.keeps x.toInCall.keep,codeAny_func ?_⟩
 obtain⟨t,ht,hq⟩:=hbody A outer s H vs Q E (hr.deeper _) hsp
 have I:Inv (cxOf CX P w K mg base N qual scope f cdv A outer s H E) [] (Xe N vs) H s1:=inv_start S hr.hd e0 hl r x
 refine wpAny_mono (ht [] s1 (Xe N vs) H _ I hq) (fun fl s' hs=>?_) fun e s' hs=>hs
 have fin:∀{σ':St} {H':Hp} {v:V} {u:Value},Inv (cxOf CX P w K mg base N qual scope f cdv A outer s H E) [] σ' H' s'->RelV v u->Q v H'->CE outer P w H s Q u s' :=
  fun {σ' H' v u} J rv q=>⟨v,H',J.os,J.bare,J.base,J.hok,rv,q⟩
 cases fl with
 |ret u =>
  obtain⟨v,σ',H',J,rv,q⟩:=hs
  exact fin J rv q
 |next =>
  obtain⟨σ',H',J,q⟩:=hs
  exact fin (v:=V.non) (u:=Value.none) J rfl q
 |brk =>
  obtain⟨_,_,_,q⟩:=hs
  exact False.elim q
 |cont =>
  obtain⟨_,_,_,q⟩:=hs
  exact False.elim q
section
variable {X:Cx} {x:Str} {p pos:Pos} {e:Expr} {es:List Expr} {t:TA} {id T:String} {r:List V->Hp->VK->Prop}
def tCB (r:List V->Hp->VK->Prop)(t:TA):TE:=fun σ H Q=>t σ H fun vs H1=>r vs H1 Q
theorem pe_callB (hc:CallR X (.builtin id) r)(hg:Gl X x)(hm:X.mg x=none)(hv:bootBuiltins x=some (.builtin id))(ha:PA X (e::es) t) (hn:x ≠ "__name__" := by decide) (hdb:(x==("__debug__" : Str))=false:=by decide)
  (he:starEach (e::es) X.env=(false,eval e X.env)::starEach es X.env:=by rfl) (hpl:(backTo pos (starEach es X.env)).any (·.1)=false:=by rfl):PE X (.Call (.Name x p) (e::es) [] pos) (tCB r t):=by
 intro pins s σ H Q I h
 refine wpAny_Call_Name_kw (ld_blt I hg hm hv ?_ hn hdb)
 exact PyProof.Rows.callWith_builtin1 (thn (ha pos pins s σ H _ I h) fun us s1 ⟨vs,H1,I1,r1,q1⟩=>hc pins s1 σ H1 vs us Q I1 r1 q1) he hpl
theorem pe_callTy (hc:CallR X (.type T) r)(hg:Gl X x)(hm:X.mg x=none)(hv:bootBuiltins x=some (.type T))(ha:PA X (e::es) t) (hn:x ≠ "__name__" := by decide) (hdb:(x==("__debug__" : Str))=false:=by decide)
  (he:starEach (e::es) X.env=(false,eval e X.env)::starEach es X.env:=by rfl) (hpl:(backTo pos (starEach es X.env)).any (·.1)=false:=by rfl):PE X (.Call (.Name x p) (e::es) [] pos) (tCB r t):=by
 intro pins s σ H Q I h
 refine wpAny_Call_Name_kw (ld_blt I hg hm hv ?_ hn hdb)
 exact PyProof.Rows.callWith_type1 (thn (ha pos pins s σ H _ I h) fun us s1 ⟨vs,H1,I1,r1,q1⟩=>hc pins s1 σ H1 vs us Q I1 r1 q1) he hpl
end
end L2
namespace HT
open PySem PyProof.Rows
section
variable {prog:Program} {w:World} {A:Around} {E:Value->Shared->Prop} {s:Shared}
theorem cat_tup {t b:Addr}{vs ws:List Value}{Q:Value->Shared->Prop}(ht:IsTup s.heap t vs.toArray)(hb:IsTup s.heap b ws.toArray)(hv:vs≠[])(h1:ws=[]->Q (.ref t) s) (h2:ws≠[]->Q (.ref s.heap.objs.size) { s with heap:=s.heap.push { cls:=.type "tuple", data:=.seq (vs++ws).toArray } })
  (hsz:vs.length+ws.length<=sizeLine):wpAny (model prog w) A (binaryOp .Add (.ref t) (.ref b)) Q E s:=by
 obtain⟨⟨cls,dd,data,sl⟩,ho,hc,n,hd⟩:=id ht
 obtain⟨⟨cls2,dd2,data2,sl2⟩,ho2,hc2,n2,hd2⟩:=id hb
 simp only at hc hd hc2 hd2
 subst hc hd hc2 hd2
 have e:vs.toArray++ws.toArray=(vs++ws).toArray:=by simp
 by_cases hw:ws=[]
 ·exact concat_meets ⟨_,ho,rfl⟩ ⟨_,ho2,rfl⟩ noFill_tuple_add seq_tuple_add PySem.F.slot_tuple_add PySem.F.entry_tuple_add (PySem.F.args_tuple_add_2 _ _)
   (tuple_addW1 t b vs.toArray ws.toArray n n2 dd dd2 sl sl2 (by simpa using hv) (by simp[hw])) ⟨ho,ho2,h1 hw⟩
 ·refine concat_meets ⟨_,ho,rfl⟩ ⟨_,ho2,rfl⟩ noFill_tuple_add seq_tuple_add PySem.F.slot_tuple_add PySem.F.entry_tuple_add (PySem.F.args_tuple_add_2 _ _)
   (tuple_addW2 t b vs.toArray ws.toArray n n2 dd dd2 sl sl2 (by simpa using hv) (by simpa using hw) (by rw[List.size_toArray,List.size_toArray];exact hsz)) ⟨ho,ho2,?_⟩
  rw[e]
  exact h2 hw
def sIx (n d:Nat):Option Int->Nat
 |none=>d
 |some v=>if v<0 then(v+(n:Int)).toNat else min v.toNat n
theorem sIx_none (n d:Nat):sIx n d none=d:=rfl
theorem sIx_nat (n d k:Nat):sIx n d (some (k:Int))=min k n:=by
 show(if(k:Int)<0 then((k:Int)+(n:Int)).toNat else min (k:Int).toNat n)=min k n
 rw[if_neg (by omega),Int.toNat_natCast]
theorem sIx_le (n d:Nat)(hd:d<=n)(o:Option Int):sIx n d o<=n:=by
 cases o with
 |none=>exact hd
 |some v =>
  show(if v<0 then(v+(n:Int)).toNat else min v.toNat n)<=n
  by_cases hv:v<0
  ·rw[if_pos hv];omega
  ·rw[if_neg hv];exact Nat.min_le_right _ _
theorem clip_eq (v:Int)(n d:Nat):(if v<0 then max (v+(n:Int)) 0 else min v (n:Int))=((sIx n d (some v):Nat):Int):=by
 show(if v<0 then max (v+(n:Int)) 0 else min v (n:Int))=(((if v<0 then(v+(n:Int)).toNat else min v.toNat n):Nat):Int)
 by_cases hv:v<0
 ·simp only[if_pos hv];omega
 ·simp only[if_neg hv];omega
theorem adjust_gen (lo hi:Option Int)(n:Nat):Builtin.Slice.sliceAdjust lo hi 1 (n:Int)=(((sIx n 0 lo:Nat):Int),((sIx n n hi:Nat):Int)):=by
 have h1:¬((1:Int)<0):=by omega
 unfold Builtin.Slice.sliceAdjust
 simp only[h1,if_false]
 refine Prod.ext ?_ ?_
 ·cases lo with
  |none=>rfl
  |some v=>exact clip_eq v n 0
 ·cases hi with
  |none=>rfl
  |some v=>exact clip_eq v n n
theorem places_gen (i j:Nat):Builtin.Slice.slicePlaces (i:Int) (j:Int) 1=j - i:=by
 unfold Builtin.Slice.slicePlaces
 have h1:(1:Int) > 0:=by omega
 simp only[h1,if_true,Int.ediv_one]
 split<;>omega
theorem slicePart_ {v:Value}{o:Option Int}{Q:Option Int->Shared->Prop}(p:IsPart v o)(h:Q o s):wpAny (model prog w) A (Builtin.Slice.slicePartIndex v) Q E s:=by
 cases p with
 |none=>exact slicePart_none h
 |int i t=>exact slicePart_int h
theorem sliceApplied_gen {sl:Addr}{vl vu:Value}{lo hi:Option Int}{n:Nat}{Q:Int×Int×Nat->Shared->Prop}(hs:s.heap.IsSliceOf sl vl vu .none)(pl:IsPart vl lo)(pu:IsPart vu hi)(h:Q (((sIx n 0 lo:Nat):Int),1,sIx n n hi - sIx n 0 lo) s):wpAny (model prog w) A (Builtin.Slice.sliceApplied (.ref sl) (pure (n:Int))) Q E s:=by
 obtain⟨os,hos,hcs,hds⟩:=id hs
 unfold Builtin.Slice.sliceApplied Builtin.Slice.sliceFields
 refine wpAny_bind (wpAny_bind (wpAny_field hos hds (x:=vl) rfl (wpAny_bind (wpAny_field hos hds (x:=vu) rfl (wpAny_bind (wpAny_field hos hds (x:=.none) rfl (wpAny_pure ?_)))))))
 refine wpAny_bind (slicePart_none ?_)
 show wpAny _ _ (if((1:Int)==0)=true then _ else _) _ _ s
 rw[if_neg (by decide)]
 refine wpAny_bind (slicePart_ pl (wpAny_bind (slicePart_ pu (wpAny_bind (wpAny_pure ?_)))))
 show wpAny _ _ (match Builtin.Slice.sliceAdjust lo hi 1 (n:Int) with|(lo,hi)=>pure (lo,(1:Int),Builtin.Slice.slicePlaces lo hi 1)) _ _ s
 rw[adjust_gen lo hi n]
 show wpAny _ _ (pure (((sIx n 0 lo:Nat):Int),(1:Int),Builtin.Slice.slicePlaces ((sIx n 0 lo:Nat):Int) ((sIx n n hi:Nat):Int) 1)) _ _ s
 rw[places_gen]
 exact wpAny_pure h
theorem pick_gen (xs:Array Value)(i k:Nat):((List.range k).filterMap fun(m:Nat)=>xs[((i:Int)+(m:Int)*1).toNat]?).toArray=((xs.toList.drop i).take k).toArray:=by
 have e:(fun(m:Nat)=>xs[((i:Int)+(m:Int)*1).toNat]?)=fun m=>xs[i+m]?:=by
  funext m
  have:((i:Int)+(m:Int)*1).toNat=i+m:=by omega
  rw[this]
 rw[e]
 have:=pick_run xs i k
 rw[List.filterMap_map] at this
 have e2:((fun x=>xs[x]?)∘fun x=>i+x)=fun m=>xs[i+m]?:=rfl
 rw[e2] at this
 rw[this]
theorem getItem_tuple_cut {t sl:Addr}{items:Array Value}{vl vu:Value}{lo hi:Option Int}{Q:Value->Shared->Prop}(ht:IsTup s.heap t items)(hs:s.heap.IsSliceOf sl vl vu .none)(pl:IsPart vl lo)(pu:IsPart vu hi)(hw:¬(sIx items.size 0 lo=0/\sIx items.size items.size hi=items.size))
  (h:Q (.ref s.heap.objs.size) { s with heap:=s.heap.push { cls:=.type "tuple", data:=.seq ((items.toList.drop (sIx items.size 0 lo)).take (sIx items.size items.size hi - sIx items.size 0 lo)).toArray } })
  (hsz:items.size<=sizeLine):wpAny (model prog w) A (getItem (.ref t) (.ref sl)) Q E s:=by
 have htake:sizeOk (.seq ((items.toList.drop (sIx items.size 0 lo)).take (sIx items.size items.size hi - sIx items.size 0 lo)).toArray):=by
  show((items.toList.drop (sIx items.size 0 lo)).take (sIx items.size items.size hi - sIx items.size 0 lo)).toArray.size<=sizeLine
  rw[List.size_toArray,List.length_take,List.length_drop,Array.length_toList]
  omega
 have hj:sIx items.size items.size hi<=items.size:=sIx_le _ _ (Nat.le_refl _) hi
 obtain⟨os,hos,hcs,hds⟩:=id hs
 have hTs:s.TypeIs (.ref sl) "slice" := ⟨os,hos,hcs⟩
 unfold getItem
 try with_reducible refine wpAny_holding ?_
 first|refine wpAny_bind (wpAny_pure ?_)|skip
 refine wpAny_bind (wpAny_sequenceKey ht.typeIs (by decide) ?_)
 refine wpAny_bind (wpAny_callSpecial?_slot (name:=Str.ofString "__getitem__") ht.typeIs PyProof.Rows.slot_tuple_getitem
  (wpAny_call_entry PyProof.Rows.slot_tuple_getitem ht.typeIs entry_tuple_getitem ?_ (args_tuple_getitem _ _)))
 show wpAny _ _ (Builtin.Tuple.tupleItemsOf (.ref t)>>=_) _ _ s
 refine wpAny_bind (tupleItemsOf_ ht ?_)
 refine wpAny_bind (wpAny_typeOf hTs ?_)
 rw[if_pos (by decide)]
 refine wpAny_bind (sliceApplied_gen hs pl pu ?_)
 have hno:¬((((sIx items.size 0 lo:Nat):Int)==0&&(1:Int)==1&&(sIx items.size items.size hi - sIx items.size 0 lo)==items.size)=true):=by
  intro q
  rw[Bool.and_eq_true,Bool.and_eq_true] at q
  have q1:((sIx items.size 0 lo:Nat):Int)=0:=eq_of_beq q.1.1
  have q2:sIx items.size items.size hi - sIx items.size 0 lo=items.size:=eq_of_beq q.2
  exact hw ⟨by omega,by omega⟩
 show wpAny _ _ (if(((sIx items.size 0 lo:Nat):Int)==0&&(1:Int)==1&&(sIx items.size items.size hi - sIx items.size 0 lo)==items.size)=true then _ else _) _ _ s
 rw[if_neg hno,pick_gen]
 first
  |exact wpAny_bind (m:=Builtin.Tuple.tupleExact _) (wpAny_newObj_type (wpAny_pure ⟨_,rfl,wpAny_pure h⟩) htake)
  |exact wpAny_bind (m:=Builtin.Tuple.tupleExact _) (wpAny_newObj_type (wpAny_bind (wpAny_pure (wpAny_pure ⟨_,rfl,wpAny_pure h⟩))) htake)
  |exact wpAny_bind (wpAny_bind (m:=Builtin.Tuple.tupleExact _) (wpAny_newObj_type (wpAny_pure (wpAny_pure ⟨_,rfl,wpAny_pure h⟩)) htake))
  |exact wpAny_bind (wpAny_bind (m:=Builtin.Tuple.tupleExact _) (wpAny_newObj_type (wpAny_pure ⟨_,rfl,wpAny_pure h⟩) htake))
end
end HT
namespace L2
open PySem PySem.Spec PyProof.Rows
abbrev TO:=St->Hp->(Option Int->Hp->Prop)->Prop
def PO (X:Cx)(e:Option Expr)(t:TO):Prop :=
 ∀(pins:List (Addr×Obj)) (s:Shared) (σ:St) (H:Hp) (Q:Option Int->Hp->Prop),Inv X pins σ H s->t σ H Q ->
  wpAny (model X.prog X.w) X.A (evalPart e X.env) (fun u s'=>∃o H',Inv X pins σ H' s'/\IsPart u o/\Q o H') X.xe s
def tNoPart:TO:=fun _ H Q=>Q none H
def tPart (t:TE):TO:=fun σ H Q=>t σ H fun x H1=>∃i,x=.int i/\Q (some i) H1
section
variable {X:Cx} {e:Expr} {te:TE} {lo hi:Option Expr} {tl th:TO} {pos p2:Pos}
theorem po_none:PO X none tNoPart:=by
 intro pins s σ H Q I h
 rw[evalPart_none]
 exact wpAny_pure ⟨none,H,I,.none,h⟩
theorem po_some (h:PE X e te):PO X (some e) (tPart te):=by
 intro pins s σ H Q I hw
 rw[evalPart_some]
 refine thn (h pins s σ H _ I hw) fun u s1 ⟨x,H1,I1,r1,q1⟩=>?_
 obtain⟨i,rfl,q⟩:=q1
 obtain⟨t,rfl⟩:=r1
 exact⟨some i,H1,I1,.int i t,q⟩
def SlR (X:Cx)(r:V->Option Int->Option Int->Hp->VK->Prop):Prop :=
 ∀(pins:List (Addr×Obj)) (s:Shared) (σ:St) (H:Hp) (x:V) (v vl vu:Value) (lo hi:Option Int) (sl:Addr) (Q:VK),Inv X pins σ H s->RelV x v->s.heap.IsSliceOf sl vl vu .none->IsPart vl lo->IsPart vu hi->r x lo hi H Q ->
  ∃T id,typeLookup (.type T) "__getitem__" = pure (some (.builtin id))/\s.TypeIs v T/\wpAny (model X.prog X.w) X.A (getItem v (.ref sl)) (EP X pins σ Q) X.xe s
theorem SlR.or {r r':V->Option Int->Option Int->Hp->VK->Prop}(h:SlR X r)(h':SlR X r'):SlR X (fun x lo hi H Q=>r x lo hi H Q\/r' x lo hi H Q):=by
 intro pins s σ H x v vl vu lo hi sl Q I rx hs pl pu q
 rcases q with q|q
 ·exact h pins s σ H x v vl vu lo hi sl Q I rx hs pl pu q
 ·exact h' pins s σ H x v vl vu lo hi sl Q I rx hs pl pu q
def tSl (r:V->Option Int->Option Int->Hp->VK->Prop)(te:TE)(tl th:TO):TE:=fun σ H Q=>te σ H fun x H1=>tl σ H1 fun l H2=>th σ H2 fun u H3=>r x l u H3 Q
theorem pe_slice {r:V->Option Int->Option Int->Hp->VK->Prop}(hr:SlR X r)(he:PE X e te)(hl:PO X lo tl)(hu:PO X hi th):PE X (.Subscript e (.Slice lo hi none p2) pos) (tSl r te tl th):=by
 intro pins s σ H Q I h
 refine Subscript_ (thn (he pins s σ H _ I h) fun v s1 ⟨x,H1,I1,r1,q1⟩=>?_)
 refine wpAny_Slice (thn (hl pins s1 σ H1 _ I1 q1) fun vl s2 ⟨l,H2,I2,pl,q2⟩=>thn (hu pins s2 σ H2 _ I2 q2) fun vu s3 ⟨u,H3,I3,pu,q3⟩=>?_)
 rw[evalPart_none]
 refine wpAny_pure ?_
 have I4:Inv X pins σ H3 { s3 with heap:=s3.heap.push { cls:=.type "slice", data:=.fields #[vl,vu,.none] } }:=I3.kept (t':=s3.toks) fun b ob q=>Heap.get?_push_of_some _ q
 obtain⟨T,id,hT,ht,hg⟩:=hr pins { s3 with heap:=s3.heap.push { cls:=.type "slice", data:=.fields #[vl,vu,.none] } } σ H3 x v vl vu l u s3.heap.objs.size Q I4 r1 (Heap.IsSliceOf.new ..) pl pu q3
 show wpAny (model X.prog X.w) X.A (subscriptTail e (.Slice lo hi none p2) v (.ref s3.heap.objs.size)) (EP X pins σ Q) X.xe { s3 with heap:=s3.heap.push { cls:=.type "slice", data:=.fields #[vl,vu,.none] } }
 exact tail_any (ops:=[.ref s3.heap.objs.size,v]) ht hT hg (by with_unfolding_all rfl)
def cutV (xs:List V)(lo hi:Option Int):List V:=(xs.drop (HT.sIx xs.length 0 lo)).take (HT.sIx xs.length xs.length hi - HT.sIx xs.length 0 lo)
theorem cutV_length (xs:List V)(lo hi:Option Int):(cutV xs lo hi).length<=xs.length:=by
 unfold cutV
 rw[List.length_take,List.length_drop]
 omega
def rSlT (K:PySem.W.Frag):V->Option Int->Option Int->Hp->VK->Prop:=fun x lo hi H Q=>∃a xs,x=.ref a/\SqT K H a xs /\
 ¬(HT.sIx xs.length 0 lo=0/\HT.sIx xs.length xs.length hi=xs.length)/\∀p,H p=none->Q (.ref p) (upd H p (.tup (cutV xs lo hi)))
theorem sl_tup:SlR X (rSlT X.K):=by
 intro pins s σ H x v vl vu lo hi sl Q I rx hs pl pu h
 obtain⟨a,xs,rfl,hx,hw,q⟩:=h
 cases rx
 obtain⟨its,r,ht,hz⟩:=I.tuple hx
 have hlen:its.toArray.size=xs.length:=by rw[List.size_toArray];exact r.length.symm
 refine⟨"tuple", _,PyProof.Rows.slot_tuple_getitem.lookup,ht.typeIs,?_⟩
 refine HT.getItem_tuple_cut ht hs pl pu (by rw[hlen];exact hw) ?_ (by rw[hlen];exact hz)
 rw[hlen]
 refine⟨.ref s.heap.objs.size,_,I.laid (t':=s.toks) (o:=.tup (cutV xs lo hi)) (fun b ob q=>Heap.get?_push_of_some _ q) (Nat.le_refl _) ?_,rfl,q _ (I.hok.fresh (Nat.le_refl _))⟩
 exact⟨Nat.le_trans (cutV_length xs lo hi) hz,_,(r.drop (HT.sIx xs.length 0 lo)).take (HT.sIx xs.length xs.length hi - HT.sIx xs.length 0 lo),IsTup.new _ _⟩
def rCatT (K:PySem.W.Frag):R2:=fun x y H Q=>∃a b xs ys,x=.ref a/\y=.ref b/\SqT K H a xs/\SqT K H b ys/\xs≠[]/\xs.length+ys.length<=sizeLine /\
 (ys=[]->Q (.ref a) H)/\(ys≠[]->∀p,H p=none->Q (.ref p) (upd H p (.tup (xs++ys))))
theorem Vals.nil_iff {xs:List V}{us:List Value}(r:Vals xs us):us=[]↔xs=[]:=by
 cases r with
 |nil=>simp
 |cons _ _=>simp
theorem op_catT:OpR X (binaryOp .Add) (rCatT X.K):=by
 intro pins s σ H x y v u Q I rx ry h
 obtain⟨a,b,xs,ys,rfl,rfl,ha,hb,hx,hz,q1,q2⟩:=h
 cases rx
 cases ry
 obtain⟨its,r1,p1,_⟩:=I.tuple ha
 obtain⟨its2,r2,p2,_⟩:=I.tuple hb
 refine HT.cat_tup p1 p2 (fun z=>hx (r1.nil_iff.mp z)) (fun z=>⟨.ref a,H,I,rfl,q1 (r2.nil_iff.mp z)⟩) (fun z=>?_) (by rw[<-r1.length,<-r2.length];exact hz)
 refine⟨.ref s.heap.objs.size,_,I.laid (t':=s.toks) (o:=.tup (xs++ys)) (fun b ob q=>Heap.get?_push_of_some _ q) (Nat.le_refl _) ?_,rfl,q2 (fun w=>z (r2.nil_iff.mpr w)) _ (I.hok.fresh (Nat.le_refl _))⟩
 exact⟨by rw[List.length_append];exact hz,_,r1.append r2,IsTup.new _ _⟩
end
def ixN (n:Nat)(i:Int):Option Nat:=if 0<=i then(if i<n then some i.toNat else none) else if -(n:Int)<=i then some (i+n).toNat else none
def atI {α:Type}(xs:List α)(i:Int):Option α:=(ixN xs.length i).bind fun j=>xs[j]?
theorem ixN_seq {n:Nat}{i:Int}{j:Nat}(h:ixN n i=some j):seqIndex? i n=some j/\j<n/\-(n:Int)<=i/\i<n:=by
 unfold ixN at h
 by_cases h0:0<=i
 ·rw[if_pos h0] at h
  by_cases h1:i<n
  ·rw[if_pos h1] at h
   have e:i.toNat=j:=Option.some.inj h
   exact⟨by rw[seqIndex_of h0 h1,e],by omega,by omega,h1⟩
  ·rw[if_neg h1] at h;cases h
 ·rw[if_neg h0] at h
  by_cases h1:-(n:Int)<=i
  ·rw[if_pos h1] at h
   have e:(i+n).toNat=j:=Option.some.inj h
   exact⟨by rw[seqIndex_neg (by omega) h1,e],by omega,h1,by omega⟩
  ·rw[if_neg h1] at h;cases h
theorem atI_get {α:Type}{xs:List α}{i:Int}{v:α}(h:atI xs i=some v):∃j,seqIndex? i xs.length=some j/\xs[j]?=some v/\j<xs.length/\-(xs.length:Int)<=i/\i<xs.length:=by
 unfold atI at h
 cases e:ixN xs.length i with
 |none=>rw[e] at h;cases h
 |some j =>
  rw[e] at h
  obtain⟨h1,h2,h3,h4⟩:=ixN_seq e
  exact⟨j,h1,h,h2,h3,h4⟩
theorem atI_nat {α:Type}{xs:List α}{j:Nat}{v:α}(h:xs[j]?=some v):atI xs (j:Int)=some v:=by
 have hj:j<xs.length:=(List.getElem?_eq_some_iff.mp h).1
 have e:ixN xs.length (j:Int)=some j:=by
  unfold ixN
  rw[if_pos (by omega),if_pos (by omega)];simp
 unfold atI;rw[e];exact h
def PlainIx (b:Expr):Prop:=∀o i,subscripted b false o i=operate [o,i] (getItem o i)
def IxR (X:Cx)(r:R2):Prop :=
 ∀(value slice:Expr) (pins:List (Addr×Obj)) (s:Shared) (σ:St) (H:Hp) (x y:V) (v u:Value) (Q:VK),Inv X pins σ H s->RelV x v->RelV y u->r x y H Q ->
  subscripted slice false v u=operate [v,u] (getItem v u)->wpAny (model X.prog X.w) X.A (subscriptTail value slice v u) (EP X pins σ Q) X.xe s
def MtR (X:Cx)(id:String)(r:V->List V->Hp->VK->Prop):Prop :=
 ∀(pins:List (Addr×Obj)) (s:Shared) (σ:St) (H:Hp) (x:V) (xs:List V) (v:Value) (us:List Value) (Q:VK),Inv X pins σ H s->RelV x v->Vals xs us->r x xs H Q ->
  wpAny (model X.prog X.w) X.A (call (.builtin id) (v::us)) (EP X pins σ Q) X.xe s
section
variable {X:Cx} {a b:Expr} {ta tb:TE} {pos:Pos}
theorem IxR.or {r r':R2}(h:IxR X r)(h':IxR X r'):IxR X (fun x y H Q=>r x y H Q\/r' x y H Q):=by
 intro value slice pins s σ H x y v u Q I rx ry q hs
 rcases q with q|q
 ·exact h value slice pins s σ H x y v u Q I rx ry q hs
 ·exact h' value slice pins s σ H x y v u Q I rx ry q hs
theorem pe_ix {r:R2}(hr:IxR X r)(ha:PE X a ta)(hb:PE X b tb)(hs:PlainIx b):PE X (.Subscript a b pos) (tOp r ta tb):=by
 intro pins s σ H Q I h
 exact Subscript_ (binT ha hb I h fun v u s2 x y H2 I2 rx ry q=>hr a b pins s2 σ H2 x y v u Q I2 rx ry q (hs _ _))
def rIxL (K:PySem.W.Frag):R2:=fun x y H Q=>∃p xs i v,x=.ref p/\y=.int i/\SqL K H p xs/\atI xs i=some v/\Q v H
def rIxT (K:PySem.W.Frag):R2:=fun x y H Q=>∃p xs i v,x=.ref p/\y=.int i/\SqT K H p xs/\atI xs i=some v/\Q v H
def rIxS:R2:=fun x y H Q=>∃z i c,x=.str z/\y=.int i/\z.length<=sizeLine/\atI z.cps.toList i=some c/\Q (.str ⟨#[c]⟩) H
theorem ix_list:IxR X (rIxL X.K):=by
 intro value slice pins s σ H x y v u Q I rx ry h hs
 obtain⟨p,xs,i,z,rfl,rfl,hq,he,q⟩:=h
 cases rx
 obtain⟨t,rfl⟩:=ry
 obtain⟨its,r,pl,hz⟩:=I.list hq
 obtain⟨j,h1,h2,h3,h4,h5⟩:=atI_get he
 obtain⟨w,ew,rw'⟩:=r.get h2
 have hl:=r.length
 have hn:=line63
 have fin:EP X pins σ Q w s:=⟨z,H,I,rw',q⟩
 by_cases h0:0<=i
 ·have hj:i.toNat=j:=by
   rw[seqIndex_of h0 h5] at h1
   exact Option.some.inj h1
  exact item_listR pl.isList h0 (by omega) (by rw[hj];simpa using ew) fin hs
 ·have hj:(i+(its.toArray.size:Int)).toNat=j:=by
   rw[seqIndex_neg (by omega) h4] at h1
   rw[List.size_toArray,<-hl]
   exact Option.some.inj h1
  exact subscriptTail_builtinR (x:=w) pl.isList.typeIs slot_list_getitem.lookup
   (wpAny_getItem_list_neg (Q:=fun r s'=>r=w/\EP X pins σ Q r s') pl.isList (by omega) (by rw[List.size_toArray]<;>omega) (by omega) (by rw[hj];simpa using ew) ⟨rfl,fin⟩) hs
theorem ix_tup:IxR X (rIxT X.K):=by
 intro value slice pins s σ H x y v u Q I rx ry h hs
 obtain⟨p,xs,i,z,rfl,rfl,hq,he,q⟩:=h
 cases rx
 obtain⟨t,rfl⟩:=ry
 obtain⟨its,r,pl,hz⟩:=I.tuple hq
 obtain⟨j,h1,h2,h3,h4,h5⟩:=atI_get he
 obtain⟨w,ew,rw'⟩:=r.get h2
 have hl:=r.length
 have hn:=line63
 have fin:EP X pins σ Q w s:=⟨z,H,I,rw',q⟩
 exact subscriptTail_builtinR (x:=w) pl.typeIs slot_tuple_getitem.lookup
  (getItem_tuple (j:=j) (Q:=fun r s'=>r=w/\EP X pins σ Q r s') pl (by omega) (by omega) (by rw[List.size_toArray,<-hl];exact h1) (by simpa using ew) ⟨rfl,fin⟩) hs
theorem ix_str:IxR X rIxS:=by
 intro value slice pins s σ H x y v u Q I rx ry h hs
 obtain⟨z,i,c,rfl,rfl,hz,he,q⟩:=h
 obtain⟨t,rfl⟩:=rx
 obtain⟨t',rfl⟩:=ry
 obtain⟨j,h1,h2,h3,h4,h5⟩:=atI_get he
 have hl:z.cps.toList.length=z.length:=by simp[Str.length]
 rw[hl] at h1 h4 h5
 have hn:=line63
 exact tail_any (typeIs_str s z t) slot_str_getitem.lookup (getItem_str (c:=c) (by
  have e1:decide (i < -(2 ^ 63:Int))=false:=decide_eq_false (by omega)
  have e2:decide (i ≥ 2 ^ 63)=false:=decide_eq_false (by omega)
  rw[e1,e2,Bool.or_false]) (by rw[h1];simpa using h2) ⟨.str ⟨#[c]⟩,H,I.tok _,⟨_,rfl⟩,q⟩) hs
def rIx (K:PySem.W.Frag):R2:=fun x y H Q=>rIxL K x y H Q\/rIxT K x y H Q\/rIxS x y H Q
theorem ix_seq:IxR X (rIx X.K):=ix_list.or (ix_tup.or ix_str)
theorem mapSeq_set (its:List Value)(n j:Nat)(u:Value):Obj.mapSeq (·.setIfInBounds j u) { cls:=.type "list", data:=.seq its.toArray n }={ cls:=.type "list", data:=.seq (its.set j u).toArray n }:=by
 simp[Obj.mapSeq]
theorem Inv.lst {pins:List (Addr×Obj)}{σ:St}{H:Hp}{s:Shared}{p:Addr}{xs:List V}(I:Inv X pins σ H s)(h:H p=some (.lst xs)) :
  ∃(its:List Value) (n:Nat),Vals xs its/\s.heap.get? p=some { cls:=.type "list", data:=.seq its.toArray n }/\xs.length<=sizeLine:=by
 obtain⟨z,its,n,r,e⟩:=I.hok p _ h
 exact⟨its,n,r,e,z⟩
theorem Inv.lstUpd {pins:List (Addr×Obj)}{σ:St}{H:Hp}{s:Shared}{p:Addr}{xs ys:List V}{its its':List Value}{n n':Nat}{f:Obj->Obj}(I:Inv X pins σ H s)(h:H p=some (.lst xs))
  (ho:s.heap.get? p=some { cls:=.type "list", data:=.seq its.toArray n }) (hf:f { cls:=.type "list", data:=.seq its.toArray n }={ cls:=.type "list", data:=.seq its'.toArray n' }) (r:Vals ys its') (hz:ys.length<=sizeLine) (t:Nat) :
  Inv X pins σ (upd H p (.lst ys)) { s with heap:=s.heap.update p f,toks:=t }:=by
 have e:(s.heap.update p f).get? p=some { cls:=.type "list", data:=.seq its'.toArray n' }:=by
  rw[Heap.get?_update_self f ho (by rw[hf]<;>rfl),hf]
 refine I.write (x:=p) (e:=p) (by rw[h];trivial) (.inl rfl) (fun b u hb q=>(Heap.get?_update_other _ _ (Ne.symm hb)).trans q) ⟨_,e⟩ ?_
 exact⟨hz,its',n',r,e⟩
def rSetL:V->V->V->Hp->(Hp->Prop)->Prop:=fun o i v H Q=>∃p xs k j,o=.ref p/\i=.int k/\H p=some (.lst xs)/\ixN xs.length k=some j/\Q (upd H p (.lst (xs.set j v)))
theorem set_list:PSet X rSetL:=by
 intro pins s σ H o i v ov iv u Q I ro ri rv h
 obtain⟨p,xs,k,j,rfl,rfl,hp,hj,q⟩:=h
 cases ro
 obtain⟨t,rfl⟩:=ri
 obtain⟨its,n,r,ho,hz⟩:=I.lst hp
 obtain⟨h1,h2,h3,h4⟩:=ixN_seq hj
 have hl:=r.length
 have hn:=line63
 have I':Inv X pins σ (upd H p (.lst (xs.set j v))) { s with heap:=s.heap.update p (Obj.mapSeq (·.setIfInBounds j u)) } :=
  I.lstUpd hp ho (mapSeq_set its n j u) (r.set rv j) (by rw[List.length_set];exact hz) s.toks
 by_cases h0:0<=k
 ·have hk:k.toNat=j:=by
   rw[seqIndex_of h0 h4] at h1
   exact Option.some.inj h1
  exact PySem.W.ki_setAt ho h0 (by omega) (by rw[List.size_toArray,<-hl];exact h4) (by rw[hk];exact⟨_,I',q⟩)
 ·have hk:(k+(its.toArray.size:Int)).toNat=j:=by
   rw[seqIndex_neg (by omega) h3] at h1
   rw[List.size_toArray,<-hl]
   exact Option.some.inj h1
  exact PySem.W.ki_setBack ho (by omega) (by rw[List.size_toArray,<-hl];exact h3) (by omega) (by rw[hk];exact⟨_,I',q⟩)
theorem slice_bounds (lo hi:Option Int)(n:Nat):(sliceBounds lo hi none n).1=((HT.sIx n 0 lo:Nat):Int)/\(sliceBounds lo hi none n).2.1=((HT.sIx n n hi:Nat):Int)/\(sliceBounds lo hi none n).2.2=1:=by
 refine⟨?_,?_,rfl⟩
 ·cases lo with
  |none=>simp[sliceBounds,HT.sIx]
  |some i =>
   simp only[sliceBounds,HT.sIx,Option.getD_none,show(1:Int) > 0 by decide,if_true]
   by_cases h:i<0
   ·simp only[h,if_true]<;>omega
   ·simp only[h,if_false]<;>omega
 ·cases hi with
  |none=>simp[sliceBounds,HT.sIx]
  |some i =>
   simp only[sliceBounds,HT.sIx,Option.getD_none,show(1:Int) > 0 by decide,if_true]
   by_cases h:i<0
   ·simp only[h,if_true]<;>omega
   ·simp only[h,if_false]<;>omega
theorem slicePick_cut (its:List Value)(lo hi:Option Int):slicePick its.toArray lo hi none=((its.drop (HT.sIx its.length 0 lo)).take (HT.sIx its.length its.length hi - HT.sIx its.length 0 lo)).toArray:=by
 obtain⟨h1,h2,h3⟩:=slice_bounds lo hi its.toArray.size
 unfold slicePick
 rw[h1,h2,h3]
 simp only[sliceRange_one,pick_run,List.size_toArray]<;>rfl
def rSlL (K:PySem.W.Frag):V->Option Int->Option Int->Hp->VK->Prop:=fun x lo hi H Q=>∃a xs,x=.ref a/\SqL K H a xs/\∀p,H p=none->Q (.ref p) (upd H p (.lst (cutV xs lo hi)))
theorem sl_list:SlR X (rSlL X.K):=by
 intro pins s σ H x v vl vu lo hi sl Q I rx hs pl pu h
 obtain⟨a,xs,rfl,hx,q⟩:=h
 cases rx
 obtain⟨its,r,ht,hz⟩:=I.list hx
 have hlen:=r.length
 refine⟨"list", _,slot_list_getitem.lookup,ht.isList.typeIs,?_⟩
 refine wpAny_getItem_list_slice ht.isList hs pl pu .none (by simp) ?_ (by rw[List.size_toArray]<;>omega)
 rw[slicePick_cut,<-hlen]
 refine⟨.ref s.heap.objs.size,_,I.laid (t':=s.toks) (o:=.lst (cutV xs lo hi)) (fun b ob q=>Heap.get?_push_of_some _ q) (Nat.le_refl _) ?_,rfl,q _ (I.hok.fresh (Nat.le_refl _))⟩
 exact⟨Nat.le_trans (cutV_length xs lo hi) hz,_,0,(r.drop (HT.sIx xs.length 0 lo)).take (HT.sIx xs.length xs.length hi - HT.sIx xs.length 0 lo),Heap.get?_push_size _ rfl⟩
def flatV:V->Bool
 |.non=>true
 |.bl _=>true
 |.int _=>true
 |.str _=>true
 |_=>false
def eqV:V->V->Bool
 |.non,.non=>true
 |.bl a,.bl b=>a==b
 |.bl a,.int b=>(if a then 1 else 0)==b
 |.int a,.bl b=>a==(if b then 1 else 0)
 |.int a,.int b=>a==b
 |.str a,.str b=>a==b
 |_,_=>false
theorem eqAt_V {A:Around}{s:Shared}{y x:V}{u v:Value}(ry:RelV y u)(rx:RelV x v)(fy:flatV y=true)(fx:flatV x=true):SeqAt.EqAt A s u v (eqV y x):=by
 cases y with
 |non =>
  cases ry
  cases x with
  |non=>cases rx;exact SeqAt.EqAt.same _
  |bl b=>cases rx;exact SeqAt.EqAt.none_bool b
  |int b=>obtain⟨t,rfl⟩:=rx;exact SeqAt.EqAt.none_int b t
  |str b=>obtain⟨t,rfl⟩:=rx;exact SeqAt.EqAt.none_str b t
  |_=>exact absurd (show false=true from fx) Bool.false_ne_true
 |bl a =>
  cases ry
  cases x with
  |non=>cases rx;exact SeqAt.EqAt.bool_none a
  |bl b=>cases rx;exact SeqAt.EqAt.bool_bool a b
  |int b=>obtain⟨t,rfl⟩:=rx;exact SeqAt.EqAt.bool_int a b t
  |str b=>obtain⟨t,rfl⟩:=rx;exact SeqAt.EqAt.bool_str a b t
  |_=>exact absurd (show false=true from fx) Bool.false_ne_true
 |int a =>
  obtain⟨t',rfl⟩:=ry
  cases x with
  |non=>cases rx;exact SeqAt.EqAt.int_none a t'
  |bl b=>cases rx;exact SeqAt.EqAt.int_bool a t' b
  |int b=>obtain⟨t,rfl⟩:=rx;exact SeqAt.EqAt.int_int a t' b t
  |str b=>obtain⟨t,rfl⟩:=rx;exact SeqAt.EqAt.int_str a t' b t
  |_=>exact absurd (show false=true from fx) Bool.false_ne_true
 |str a =>
  obtain⟨t',rfl⟩:=ry
  cases x with
  |non=>cases rx;exact SeqAt.EqAt.str_none a t'
  |bl b=>cases rx;exact SeqAt.EqAt.str_bool a t' b
  |int b=>obtain⟨t,rfl⟩:=rx;exact SeqAt.EqAt.str_int a t' b t
  |str b=>obtain⟨t,rfl⟩:=rx;exact SeqAt.EqAt.str_str a t' b t
  |_=>exact absurd (show false=true from fx) Bool.false_ne_true
 |_=>exact absurd (show false=true from fy) Bool.false_ne_true
def eqU (x:V)(u:Value):Bool:=match u with
 |.none=>eqV .non x
 |.bool b=>eqV (.bl b) x
 |.int i _=>eqV (.int i) x
 |.str z _=>eqV (.str z) x
 |_=>false
theorem eqU_of {x y:V}{u:Value}(r:RelV y u)(f:flatV y=true):eqU x u=eqV y x:=by
 cases y with
 |non=>cases r;rfl
 |bl b=>cases r;rfl
 |int i=>obtain⟨t,rfl⟩:=r;rfl
 |str z=>obtain⟨t,rfl⟩:=r;rfl
 |_=>exact absurd (show false=true from f) Bool.false_ne_true
theorem any_eqU {x:V}:∀{xs:List V} {us:List Value},Vals xs us->xs.all flatV=true->us.any (eqU x)=xs.any fun y=>eqV y x
 |_,_,.nil,_=>rfl
 |y::xs,u::us,.cons r t,f=>by
  rw[List.all_cons,Bool.and_eq_true] at f
  rw[List.any_cons,List.any_cons,eqU_of r f.1,any_eqU t f.2]
theorem mem_eqAt {A:Around}{s:Shared}{x:V}{v:Value}(rx:RelV x v)(fx:flatV x=true):∀{xs:List V} {us:List Value},Vals xs us->xs.all flatV=true->∀u∈us,SeqAt.EqAt A s u v (eqU x u)
 |_,_,.nil,_=>fun u hu=>by cases hu
 |y::xs,u::us,.cons r t,f=>fun u' hu=>by
  rw[List.all_cons,Bool.and_eq_true] at f
  rcases List.mem_cons.mp hu with rfl|hu
  ·rw[eqU_of r f.1];exact eqAt_V r rx f.1 fx
  ·exact mem_eqAt rx fx t f.2 u' hu
def inV (x:V)(xs:List V):Bool:=xs.any fun y=>eqV y x
def rIn (K:PySem.W.Frag)(neg:Bool):R2:=fun x y H Q=>∃p xs,y=.ref p/\(SqL K H p xs\/SqT K H p xs)/\flatV x=true/\xs.all flatV=true/\Q (.bl (if neg then !inV x xs else inV x xs)) H
theorem op_notIn_seq:OpR X (compareOp .NotIn) (rIn X.K true):=by
 intro pins s σ H x y v u Q I rx ry h
 obtain⟨p,xs,rfl,hq,fx,fs,q⟩:=h
 cases ry
 rcases hq with hq|hq
 ·obtain⟨its,r,pl,hz⟩:=I.list hq
  refine SeqAt.notIn_listAt (eqU x) pl.isList (fun w hw=>mem_eqAt rx fx r fs w (by simpa using hw)) ⟨.bl _,H,I,rfl,?_⟩
  rw[show its.toArray.any (eqU x)=its.any (eqU x) by simp,any_eqU r fs]
  exact q
 ·obtain⟨its,r,pl,hz⟩:=I.tuple hq
  refine SeqAt.notIn_tupleAt (eqU x) pl (fun w hw=>mem_eqAt rx fx r fs w (by simpa using hw)) ⟨.bl _,H,I,rfl,?_⟩
  rw[show its.toArray.any (eqU x)=its.any (eqU x) by simp,any_eqU r fs]
  exact q
theorem call_len_seq:CallR X (.builtin "len") (fun xs H Q=>∃p ys,xs=[.ref p]/\(SqL X.K H p ys\/SqT X.K H p ys)/\Q (.int ys.length) H):=by
 intro pins s σ H xs us Q I r h
 obtain⟨p,ys,rfl,hq,q⟩:=h
 obtain⟨u,rfl,rx⟩:=vals1 r
 cases rx
 have hn:=line63
 rcases hq with hq|hq
 ·obtain⟨its,r',pl,hz⟩:=I.list hq
  have hlen:=r'.length
  exact Calls.call_len_list pl.isList (by simp only[List.size_toArray]<;>omega) ⟨.int ys.length,H,I.tok _,⟨s.toks+1,by rw[List.size_toArray,hlen]⟩,q⟩
 ·obtain⟨its,r',pl,hz⟩:=I.tuple hq
  have hlen:=r'.length
  exact len_tuple pl (by simp only[List.size_toArray]<;>omega) ⟨.int ys.length,H,I.tok _,⟨s.toks+1,by rw[List.size_toArray,hlen]⟩,q⟩
theorem call_len_str:CallR X (.builtin "len") (fun xs H Q=>∃z,xs=[.str z]/\z.length<=sizeLine/\Q (.int z.length) H):=by
 intro pins s σ H xs us Q I r h
 obtain⟨z,rfl,hz,q⟩:=h
 obtain⟨u,rfl,t,rfl⟩:=vals1 r
 have hn:=line63
 exact len_str (by omega) ⟨.int z.length,H,I.tok _,⟨_,rfl⟩,q⟩
theorem CallR.or {f:Value}{r r':List V->Hp->VK->Prop}(h:CallR X f r)(h':CallR X f r'):CallR X f (fun xs H Q=>r xs H Q\/r' xs H Q):=by
 intro pins s σ H xs us Q I rs q
 rcases q with q|q
 ·exact h pins s σ H xs us Q I rs q
 ·exact h' pins s σ H xs us Q I rs q
theorem call_tuple_of:CallR X (.type "tuple") (fun xs H Q=>∃p ys,xs=[.ref p]/\((SqL X.K H p ys/\∀l,H l=none->Q (.ref l) (upd H l (.tup ys)))\/(SqT X.K H p ys/\Q (.ref p) H))):=by
 intro pins s σ H xs us Q I r h
 obtain⟨p,ys,rfl,h⟩:=h
 obtain⟨u,rfl,rx⟩:=vals1 r
 cases rx
 rcases h with⟨hq,q⟩|⟨hq,q⟩
 ·obtain⟨its,r',pl,hz⟩:=I.list hq
  have hlen:=r'.length
  refine call_tuple_list pl.isList (fun h' kp=>?_) (by simp only[List.size_toArray]<;>omega)
  have I1:Inv X pins σ H { s with heap:=h' }:=I.kept (t':=s.toks) kp
  have I2:Inv X pins σ (upd H h'.objs.size (.tup ys)) { s with heap:=h'.push { cls:=.type "tuple", data:=.seq its.toArray } } :=
   I1.laid (t':=s.toks) (fun b o e=>Heap.get?_push_of_some _ e) (Nat.le_refl _) (show ObjOk X.prog X.w _ _ _ (.tup ys) from⟨hz,its,r',IsTup.new _ _⟩)
  exact⟨.ref h'.objs.size,_,I2,rfl,q _ (I1.hok.fresh (Nat.le_refl _))⟩
 ·obtain⟨its,r',pl,hz⟩:=I.tuple hq
  exact call_tuple_same pl ⟨.ref p,H,I,rfl,q⟩
def tyV (K:PySem.W.Frag)(T:String)(x:V)(H:Hp):Prop:=match x with
 |.str _=>T = "str"
 |.int _=>T = "int"
 |.ref p=>(T = "list"/\∃xs,SqL K H p xs)\/(T = "tuple"/\∃o,K.lookup p=some o/\o.cls=.type "tuple"/\o.dict=none) \/
   (T = "dict"/\((∃kvs,H p=some (.dK kvs))\/∃kvs,H p=some (.dT kvs)))\/(T = "set"/\∃S n,H p=some (.set S n))
 |_=>False
theorem tyV_is {pins:List (Addr×Obj)}{σ:St}{H:Hp}{s:Shared}{T:String}{x:V}{v:Value}(I:Inv X pins σ H s)(r:RelV x v)(ty:tyV X.K T x H) :
  s.TypeIs v T/\∀a,v=.ref a->∃ob,s.heap.get? a=some ob/\ob.dict=none:=by
 cases x with
 |str z =>
  obtain⟨t,rfl⟩:=r
  cases (show T = "str" from ty)
  exact⟨typeIs_str s z t,fun _ e=>nomatch e⟩
 |int i =>
  obtain⟨t,rfl⟩:=r
  cases (show T = "int" from ty)
  exact⟨typeIs_int s i t,fun _ e=>nomatch e⟩
 |ref p =>
  cases r
  rcases ty with⟨rfl,xs,hq⟩|⟨rfl,o,hk,hc,hd⟩|⟨rfl,hk⟩|⟨rfl,S,n,hk⟩
  ·obtain⟨its,_,pl,_⟩:=I.list hq
   refine⟨pl.isList.typeIs,fun a e=>?_⟩
   cases e
   obtain⟨o,n,e,c,hd,_⟩:=pl
   exact⟨o,e,hd⟩
  ·refine⟨⟨o,I.kIn p o hk,hc⟩,fun a e=>?_⟩
   cases e
   exact⟨o,I.kIn _ o hk,hd⟩
  ·have z:∃o,s.heap.get? p=some o/\o.ExactDict:=by
    rcases hk with⟨kvs,hk⟩|⟨kvs,hk⟩
    ·obtain⟨_,_,_,_,o,_,_,e,ex,_⟩:=I.hok p _ hk
     exact⟨o,e,ex⟩
    ·obtain⟨_,_,_,_,o,_,_,e,ex,_⟩:=I.hok p _ hk
     exact⟨o,e,ex⟩
   obtain⟨o,e,ex⟩:=z
   refine⟨⟨o,e,ex.1⟩,fun a e2=>?_⟩
   cases e2
   exact⟨o,e,ex.2.1⟩
  ·obtain⟨o,_,_,_,e,ex,_⟩:=I.hok p _ hk
   refine⟨⟨o,e,ex.1⟩,fun a e2=>?_⟩
   cases e2
   exact⟨o,e,ex.2.1⟩
 |_=>exact False.elim ty
def tBM (K:PySem.W.Frag)(T:String)(r:V->List V->Hp->VK->Prop)(to:TE)(t:TA):TE:=fun σ H Q=>to σ H fun x H1=>tyV K T x H1/\t σ H1 fun xs H2=>r x xs H2 Q
variable {o e:Expr} {es:List Expr} {to:TE} {t:TA} {name:Str} {apos cpos:Pos} {T id:String} {r:V->List V->Hp->VK->Prop}
theorem pe_bm (pa:PlainAttrs T)(slot:Slot T name id) (hty:typeOf (.builtin id)=pure (.type "method_descriptor")) (hm:MtR X id r) (ho:PE X o to) (ha:PA X (e::es) t)
  (hbase:attributeBase o name X.env (eval o X.env)=eval o X.env:=by rfl)
  (hfew:((backTo cpos (starEach (e::es) X.env)).all (fun x=>!x.1)&&(backToKw cpos (keywordEach [] X.env)).all (fun x=>x.1.isSome)
   && decide ((e::es).length+([]:List Keyword).length+(if([]:List Keyword).isEmpty then 0 else 1)<30))=true:=by rfl)
  (hline:(apos.endLine==cpos.line)=true:=by rfl) (hs:starEach (e::es) X.env=(false,eval e X.env)::starEach es X.env:=by rfl) (hplain:(backTo cpos (starEach es X.env)).any (·.1)=false:=by rfl) :
  PE X (.Call (.Attribute o name apos) (e::es) [] cpos) (tBM X.K T r to t):=by
 intro pins s σ H Q I h
 refine wpAny_Call_method_late hbase hfew hline rfl (thn (ho pins s σ H _ I h) fun v s1 ⟨x,H1,I1,r1,ty,q1⟩=>?_)
 obtain⟨h1,h2⟩:=tyV_is I1 r1 ty
 refine⟨T,id,pa,slot,hty,h1,h2,?_⟩
 have hA:=ha cpos pins s1 σ H1 _ I1 q1
 rw[hs] at hA ⊢
 refine Calls.callWith_builtin (by show(false||(backTo cpos (starEach es X.env)).any (·.1))=false;rw[hplain]<;>rfl) (Calls.evalArgs_plain ?_)
 exact thn hA fun us s2 ⟨vs,H2,I2,r2,q2⟩=>hm pins s2 σ H2 x vs v us Q I2 r1 r2 q2
end
def MtM (X:Cx)(id:String)(r:V->List V->Hp->VK->Prop):Prop :=
 ∀(pins:List (Addr×Obj)) (s:Shared) (σ:St) (H:Hp) (x:V) (xs:List V) (v:Value) (us:List Value) (Q:VK),Inv X pins σ H s->RelV x v->Vals xs us->r x xs H Q ->
  wpAny (model X.prog X.w) X.A (call (.builtin id) (v::us)) (EP X pins σ Q) X.xe s
theorem Vals.one:∀{x:V} {us:List Value},Vals [x] us->∃u,us=[u]/\RelV x u
 |_,_,.cons r .nil=>⟨_,rfl,r⟩
section
variable {X:Cx} {pins:List (Addr×Obj)} {σ:St} {H:Hp} {s:Shared} {l b:Addr} {xs ys zs:List V}
theorem Inv.lset {its its':List Value}{n:Nat}{f:Array Value->Array Value}{t':Nat}(I:Inv X pins σ H s)(hH:H l=some (.lst xs))
  (e:s.heap.get? l=some { cls:=.type "list", data:=.seq its.toArray n }) (hf:f its.toArray=its'.toArray) (hv:Vals ys its') (hz:ys.length<=sizeLine) :
  Inv X pins σ (upd H l (.lst ys)) { s with heap:=s.heap.update l (Obj.mapSeq f),toks:=t' }:=by
 have q:=PySem.IsL.update e f
 rw[hf] at q
 refine I.write (x:=l) (e:=l) (by rw[hH];exact trivial) (.inl rfl) (fun b' u hb hu=>(Heap.get?_update_other s.heap (Obj.mapSeq f) (Ne.symm hb)).trans hu) ⟨_,q⟩ ?_
 exact⟨hz,its',_,hv,q⟩
theorem Inv.lnew {its:List Value}{t':Nat}(I:Inv X pins σ H s)(hv:Vals ys its)(hz:ys.length<=sizeLine) :
  Inv X pins σ (upd H s.heap.objs.size (.lst ys)) { s with heap:=s.heap.push { cls:=.type "list", data:=.seq its.toArray },toks:=t' } :=
 I.laid (fun _ _ q=>Heap.get?_push_of_some _ q) (Nat.le_refl _) ⟨hz,its,0,hv,Heap.get?_push_size _ rfl⟩
theorem Inv.fresh (I:Inv X pins σ H s):H s.heap.objs.size=none:=I.hok.fresh (Nat.le_refl _)
theorem Inv.lstM (I:Inv X pins σ H s)(hH:H l=some (.lst xs)):xs.length<=sizeLine/\∃(its:List Value) (n:Nat),Vals xs its/\xs.length=its.length/\s.heap.get? l=some { cls:=.type "list", data:=.seq its.toArray n }:=by
 obtain⟨z,its,n,r,e⟩:=I.hok l _ hH
 exact⟨z,its,n,r,r.length,e⟩
end
section
variable {X:Cx}
def rAppend:V->List V->Hp->VK->Prop:=fun x vs H Q=>∃l xs y,x=.ref l/\vs=[y]/\H l=some (.lst xs)/\xs.length<sizeLine/\Q .non (upd H l (.lst (xs++[y])))
theorem mt_append:MtM X "list.append" rAppend:=by
 intro pins s σ H x vs v us Q I rx rv h
 obtain⟨l,xs,y,rfl,rfl,hH,hz,q⟩:=h
 cases rx
 obtain⟨u,rfl,ru⟩:=rv.one
 obtain⟨z,its,n,r,hl,e⟩:=I.lstM hH
 refine call_meets F.slot_list_append ⟨_,e,rfl⟩ F.entry_list_append (F.args_list_append_2 _ _) (PySem.list_append l its.toArray n u (by rw[List.size_toArray];omega)) ⟨e,?_⟩
 refine⟨.non,_,I.lset (its':=its++[u]) hH e (by simp) (r.append (.cons ru .nil)) ?_,rfl,q⟩
 rw[List.length_append,List.length_singleton]
 omega
end
section
variable {κ:Type} [DecidableEq κ]
def valV (kvs:List (κ×V))(k:κ):Option V:=(kvs.find? fun kv=>decide (kv.1=k)).map (·.2)
def putK (kvs:List (κ×V))(k:κ)(v:V):List (κ×V) :=
 if(kvs.any fun kv=>decide (kv.1=k))=true then kvs.map (fun kv=>if kv.1=k then(kv.1,v) else kv) else kvs++[(k,v)]
theorem valV_pos {p:κ×V}{r:List (κ×V)}{k:κ}(e:p.1=k):valV (p::r) k=some p.2:=by simp[valV,List.find?_cons,e]
theorem valV_neg {p:κ×V}{r:List (κ×V)}{k:κ}(e:¬p.1=k):valV (p::r) k=valV r k:=by simp[valV,List.find?_cons,e]
theorem valV_any (k:κ):∀kvs:List (κ×V),(kvs.any fun kv=>decide (kv.1=k))=(valV kvs k).isSome
 |[]=>rfl
 |p::r=>by
  rw[List.any_cons]
  by_cases e:p.1=k
  ·simp only[valV_pos e,decide_eq_true e,Bool.true_or,Option.isSome_some]
  ·rw[valV_neg e,decide_eq_false e,Bool.false_or];exact valV_any k r
theorem length_putK (kvs:List (κ×V))(k:κ)(v:V):(putK kvs k v).length<=kvs.length+1:=by
 unfold putK
 split
 ·rw[List.length_map];omega
 ·rw[List.length_append,List.length_cons,List.length_nil];omega
theorem RelO.isSome_eq {o:Option V}{u:Option Value}(r:RelO o u):o.isSome=u.isSome:=by
 cases o with
 |none=>cases u with
  |none=>rfl
  |some _=>exact(show False from r).elim
 |some _=>cases u with
  |none=>exact(show False from r).elim
  |some _=>rfl
theorem KV.val {kvs:List (κ×V)}{vs:List (κ×Value)}(r:KV kvs vs)(k:κ):RelO (valV kvs k) (valueAt vs k):=by
 unfold KV at r
 induction r with
 |nil=>exact True.intro
 | @cons p q ps qs h t ih =>
  obtain⟨h1,h2⟩:=h
  by_cases e:p.1=k
  ·have e':q.1=k:=h1.symm.trans e
   have b:valueAt (q::qs) k=some q.2:=by simp[valueAt,List.find?_cons,e']
   rw[valV_pos e,b];exact h2
  ·have e':¬q.1=k:=fun z=>e (h1.trans z)
   have b:valueAt (q::qs) k=valueAt qs k:=by simp[valueAt,List.find?_cons,e']
   rw[valV_neg e,b];exact ih
theorem KV.any {kvs:List (κ×V)}{vs:List (κ×Value)}(r:KV kvs vs)(k:κ):(kvs.any fun kv=>decide (kv.1=k))=vs.any fun kv=>decide (kv.1=k):=by
 unfold KV at r
 induction r with
 |nil=>rfl
 |cons h t ih=>rw[List.any_cons,List.any_cons,ih,h.1]
theorem KV.repl {kvs:List (κ×V)}{vs:List (κ×Value)}(r:KV kvs vs)(k:κ){y:V}{u:Value}(ry:RelV y u) :
  KV (kvs.map fun kv=>if kv.1=k then(kv.1,y) else kv) (vs.map fun kv=>if kv.1=k then(kv.1,u) else kv):=by
 unfold KV at r ⊢
 induction r with
 |nil=>exact .nil
 | @cons p q ps qs h t ih =>
  rw[List.map_cons,List.map_cons]
  refine .cons ?_ ih
  obtain⟨h1,h2⟩:=h
  by_cases e:p.1=k
  ·rw[if_pos e,if_pos (h1.symm.trans e)];exact⟨h1,ry⟩
  ·rw[if_neg e,if_neg (fun z=>e (h1.trans z))];exact⟨h1,h2⟩
theorem KV.put {kvs:List (κ×V)}{vs:List (κ×Value)}(r:KV kvs vs)(k:κ){y:V}{u:Value}(ry:RelV y u):KV (putK kvs k y) (stored vs k u):=by
 unfold putK stored
 rw[r.any k]
 by_cases e:(vs.any fun kv=>decide (kv.1=k))=true
 ·rw[if_pos e,if_pos e];exact r.repl k ry
 ·rw[if_neg e,if_neg e];exact Paired.snoc r ⟨rfl,ry⟩
theorem KV.length {kvs:List (κ×V)}{vs:List (κ×Value)}(r:KV kvs vs):kvs.length=vs.length:=Paired.length r
end
theorem kV_is {P:Program}{w:World}{k:Key}{u:Value}(r:RelV (kV k) u):(Qo P w).is k u=true:=by
 cases k with
 |inl i=>obtain⟨t,e⟩:=(show ∃t,u=Value.int i t from r);subst e;exact mixKind_int P w i t
 |inr x=>obtain⟨t,e⟩:=(show ∃t,u=Value.str x t from r);subst e;exact mixKind_str P w x t
theorem items_are {P:Program}{w:World}:∀{ks:List Key} {us:List Value},Vals (ks.map kV) us->ItemsAre (Qo P w) ks us
 |[],_,r=>by rw[List.map_nil] at r;cases r;exact .nil
 |k::ks,_,r=>by
  rw[List.map_cons] at r
  cases r with
  |cons h t=>exact .cons (kV_is h) (items_are t)
abbrev KT (H:Hp):List (List Key×V)->List (List Key×Addr×Value)->Prop:=Paired fun p q=>p.1=q.1/\H q.2.1=some (.tup (p.1.map kV))/\RelV p.2 q.2.2
theorem KT.val {H:Hp}{kvs:List (List Key×V)}{xs:List (List Key×Addr×Value)}(r:KT H kvs xs)(k:List Key):RelO (valV kvs k) ((atKey xs k).map (·.2)):=by
 induction r with
 |nil=>exact True.intro
 | @cons p q ps qs h t ih =>
  obtain⟨h1,_,h2⟩:=h
  by_cases e:p.1=k
  ·have e':q.1=k:=h1.symm.trans e
   have b:atKey (q::qs) k=some q.2:=by simp[atKey,List.find?_cons,e']
   rw[valV_pos e,b];exact h2
  ·have e':¬q.1=k:=fun z=>e (h1.trans z)
   have b:atKey (q::qs) k=atKey qs k:=by simp[atKey,List.find?_cons,e']
   rw[valV_neg e,b];exact ih
theorem KT.repl {H:Hp}{kvs:List (List Key×V)}{xs:List (List Key×Addr×Value)}(r:KT H kvs xs)(k:List Key){y:V}{u:Value}(ry:RelV y u) :
  KT H (kvs.map fun kv=>if kv.1=k then(kv.1,y) else kv) (xs.map (putAt k u)):=by
 induction r with
 |nil=>exact .nil
 | @cons p q ps qs h t ih =>
  rw[List.map_cons,List.map_cons]
  refine .cons ?_ ih
  obtain⟨h1,h2,h3⟩:=h
  unfold putAt
  by_cases e:p.1=k
  ·rw[if_pos e,if_pos (h1.symm.trans e)];exact⟨h1,h2,ry⟩
  ·rw[if_neg e,if_neg (fun z=>e (h1.trans z))];exact⟨h1,h2,h3⟩
theorem KT.put {H:Hp}{kvs:List (List Key×V)}{xs:List (List Key×Addr×Value)}(r:KT H kvs xs)(k:List Key){b:Addr}{y:V}{u:Value}(hb:H b=some (.tup (k.map kV)))(ry:RelV y u) :
  KT H (putK kvs k y) (storedH xs k b u):=by
 have e:(kvs.any fun kv=>decide (kv.1=k))=(atKey xs k).isSome:=by
  rw[valV_any,(r.val k).isSome_eq,Option.isSome_map]
 unfold putK storedH
 rw[e]
 by_cases q:(atKey xs k).isSome=true
 ·rw[if_pos q,if_pos q];exact r.repl k ry
 ·rw[if_neg q,if_neg q];exact Paired.snoc r ⟨rfl,hb,ry⟩
theorem KT.keeps {H H':Hp}{kvs:List (List Key×V)}{xs:List (List Key×Addr×Value)}(r:KT H kvs xs)(ht:∀b ys,H b=some (.tup ys)->H' b=some (.tup ys)):KT H' kvs xs :=
 Paired.mapP r fun _ _ z=>⟨z.1,ht _ _ z.2.1,z.2.2⟩
section
variable {P:Program} {w:World} {H:Hp} {h:Heap} {a:Addr}
theorem rd_of {u:HO}(ok:HOk P w H h)(e:Rd H a u):ObjOk P w H h a u:=e.ok ok
theorem dk_rd {kvs:List (Key×V)}(ok:HOk P w H h)(e:Rd H a (.dK kvs)):kvs.length<=sizeLine/\(a==sysModules)=false/\∃vs,KV kvs vs/\h.DictOf (Qo P w) a vs :=
 show ObjOk P w H h a (.dK kvs) from rd_of ok e
theorem dk_of {kvs:List (Key×V)}(ok:HOk P w H h)(e:H a=some (.dK kvs)):kvs.length<=sizeLine/\(a==sysModules)=false/\∃vs,KV kvs vs/\h.DictOf (Qo P w) a vs:=dk_rd ok (.inl e)
theorem key_of {ks:List Key}(ok:HOk P w H h)(e:H a=some (.tup (ks.map kV))):(tupleKind (Qo P w)).is h ks a:=by
 obtain⟨_,its,r,o,h1,h2,n,h3⟩:=(show ObjOk P w H h a (.tup (ks.map kV)) from ok a _ e)
 exact⟨o,its.toArray,n,h1,h2,h3,by simpa using items_are r⟩
theorem dt_rd {kvs:List (List Key×V)}(ok:HOk P w H h)(e:Rd H a (.dT kvs)):kvs.length<=sizeLine/\(a==sysModules)=false /\
  ∃xs,KT H kvs xs/\h.DictOfH (tupleKind (Qo P w)) a xs:=by
 obtain⟨z,y,xs,r,o,es,ep,h1,h2,h3,h4,h5⟩:=(show ObjOk P w H h a (.dT kvs) from rd_of ok e)
 refine⟨z,y,xs,r,o,es,ep,h1,h2,h3,h4,fun x hx=>?_,h5⟩
 have all:∀{l:List (List Key×V)} {m:List (List Key×Addr×Value)},KT H l m->∀x∈m,(tupleKind (Qo P w)).is h x.1 x.2.1:=by
  intro l m q
  induction q with
  |nil=>intro x hx;exact nomatch hx
  | @cons p q ps qs hq t ih =>
   intro x hx
   rcases List.mem_cons.mp hx with e|hx
   ·subst e
    exact key_of ok (by rw[<-hq.1];exact hq.2.1)
   ·exact ih x hx
 exact all r x hx
theorem dt_of {kvs:List (List Key×V)}(ok:HOk P w H h)(e:H a=some (.dT kvs)):kvs.length<=sizeLine/\(a==sysModules)=false /\
  ∃xs,KT H kvs xs/\h.DictOfH (tupleKind (Qo P w)) a xs:=dt_rd ok (.inl e)
end
def DGet (H:Hp)(a:Addr)(y:V)(r:Option V):Prop :=
 (∃kvs k,Rd H a (.dK kvs)/\y=kV k/\r=valV kvs k)\/∃kvs k b,Rd H a (.dT kvs)/\y=.ref b/\H b=some (.tup (k.map kV))/\r=valV kvs k
def DPut (H:Hp)(a:Addr)(y v:V)(H':Hp):Prop :=
 (∃kvs k,H a=some (.dK kvs)/\y=kV k/\kvs.length<sizeLine/\H'=upd H a (.dK (putK kvs k v))) \/
 ∃kvs k b,H a=some (.dT kvs)/\y=.ref b/\H b=some (.tup (k.map kV))/\kvs.length<sizeLine/\H'=upd H a (.dT (putK kvs k v))
theorem DGet.k {H:Hp}{a:Addr}{kvs:List (Key×V)}{k:Key}(e:H a=some (.dK kvs)):DGet H a (kV k) (valV kvs k):=.inl ⟨kvs,k,.inl e,rfl,rfl⟩
theorem DGet.t {H:Hp}{a b:Addr}{kvs:List (List Key×V)}{k:List Key}(e:H a=some (.dT kvs))(eb:H b=some (.tup (k.map kV))):DGet H a (.ref b) (valV kvs k):=.inr ⟨kvs,k,b,.inl e,rfl,eb,rfl⟩
theorem DPut.k {H:Hp}{a:Addr}{kvs:List (Key×V)}{k:Key}{v:V}(e:H a=some (.dK kvs))(hl:kvs.length<sizeLine):DPut H a (kV k) v (upd H a (.dK (putK kvs k v))):=.inl ⟨kvs,k,e,rfl,hl,rfl⟩
theorem DPut.t {H:Hp}{a b:Addr}{kvs:List (List Key×V)}{k:List Key}{v:V}(e:H a=some (.dT kvs))(eb:H b=some (.tup (k.map kV)))(hl:kvs.length<sizeLine) :
  DPut H a (.ref b) v (upd H a (.dT (putK kvs k v))):=.inr ⟨kvs,k,b,e,rfl,eb,hl,rfl⟩
section
variable {X:Cx} {pins:List (Addr×Obj)} {σ:St} {H:Hp} {s:Shared} {a:Addr} {y v:V} {u r:Value} {o:Option V} {A:Around} {E:Value->Shared->Prop}
theorem Inv.big (I:Inv X pins σ H s):sysModules<s.heap.objs.size:=by
 have h:mainGlobals<s.heap.objs.size:=(I.mod.glob.keeps I.bk).lt
 exact Nat.lt_trans (by decide) h
theorem d_in {Q:Value->Shared->Prop}(hu:A.units+1<cLine)(I:Inv X pins σ H s)(g:DGet H a y o)(ry:RelV y u)(h:∀s',Inv X pins σ H s'->Q (.bool o.isSome) s') :
  wpAny (model X.prog X.w) A (compareOp .In u (.ref a)) Q E s:=by
 rcases g with⟨kvs,k,e,ey,l⟩|⟨kvs,k,b,e,ey,eb,l⟩
 ·subst ey
  obtain⟨z,hd,vs,rel,dd⟩:=dk_rd I.hok e
  refine wpAny_in_of (kV_is ry) hd dd.mapOf ?_
  rw[<-(rel.val k).isSome_eq,<-l]
  exact h _ (I.tok _)
 ·subst ey
  cases (show u=Value.ref b from ry)
  obtain⟨z,hd,xs,rel,dd⟩:=dt_rd I.hok e
  refine wpAny_in_heap (tupleKind_room_in1 hu) (key_of I.hok eb) hd dd ?_
  have q:=(rel.val k).isSome_eq
  rw[Option.isSome_map] at q
  rw[<-q,<-l]
  exact h _ (I.tok _)
theorem d_write {h':Heap}{t':Nat}{ob:HO}(I:Inv X pins σ H s)(mu:Mut (H a))(hs:Heap.SameBut a s.heap h')(he:∃q,h'.get? a=some q)(new:ObjOk X.prog X.w (upd H a ob) h' a ob) :
  Inv X pins σ (upd H a ob) { s with heap:=h',toks:=t' } :=
 I.write (x:=a) (e:=a) mu (.inl rfl) (fun b q hb z=>(hs.2 b hb).trans z) he new
theorem dk_new {P:Program}{w:World}{H':Hp}{h':Heap}{kvs:List (Key×V)}{vs:List (Key×Value)}(z:kvs.length<=sizeLine)(hd:(a==sysModules)=false)(rel:KV kvs vs)(dd:h'.DictOf (Qo P w) a vs) :
  ObjOk P w H' h' a (.dK kvs):=⟨z,hd,vs,rel,dd⟩
theorem d_setItem {H':Hp}{Q:Unit->Shared->Prop}(hu:A.units+1<cLine)(I:Inv X pins σ H s)(g:DPut H a y v H')(ry:RelV y u)(rv:RelV v r)(h:∀s',Inv X pins σ H' s'->Q () s') :
  wpAny (model X.prog X.w) A (setItem (.ref a) u r) Q E s:=by
 rcases g with⟨kvs,k,e,ey,l,eH⟩|⟨kvs,k,b,e,ey,eb,l,eH⟩
 ·subst ey eH
  obtain⟨z,hd,vs,rel,dd⟩:=dk_of I.hok e
  have hz:vs.length<=sizeLine:=by rw[<-rel.length];exact z
  have hl:(putK kvs k v).length<=sizeLine:=by have:=length_putK kvs k v;omega
  refine wpAny_setItem_pairs (hsz:=hz) (kV_is ry) dd fun h' dd' hs=>h _ ?_
  have he:∃q,h'.get? a=some q:=let ⟨q,_,_,hq,_⟩:=dd';⟨q,hq⟩
  exact d_write I (by rw[e];exact True.intro) hs he (dk_new hl hd (rel.put k rv) dd')
 ·subst ey eH
  cases (show u=Value.ref b from ry)
  obtain⟨z,hd,xs,rel,dd⟩:=dt_of I.hok e
  have hz:xs.length<=sizeLine:=by rw[<-Paired.length rel];exact z
  have hl:(putK kvs k v).length<=sizeLine:=by have:=length_putK kvs k v;omega
  refine wpAny_setItem_heap (hsz:=hz) (tupleKind_room_in1 hu) (key_of I.hok eb) dd fun h' dd' hs=>h _ ?_
  obtain⟨q,es,ep,hq,h2,h3,h4,_,h5⟩:=dd'
  refine d_write I (by rw[e];exact True.intro) hs ⟨q,hq⟩ ⟨hl,hd,_,(rel.put k eb rv).keeps fun c ys ec=>?_,q,es,ep,hq,h2,h3,h4,h5⟩
  rw[Zj (ne_of ec e (fun z=>nomatch z))]
  exact ec
end
section
variable {X:Cx} {pins:List (Addr×Obj)} {σ:St} {H:Hp} {s:Shared} {a:Addr} {kvs:List (Key×V)} {k:Key} {u:Value} {A:Around} {E:Value->Shared->Prop}
theorem d_len {Q:Value->Shared->Prop}(I:Inv X pins σ H s)(e:Rd H a (.dK kvs))(h:∀t s',Inv X pins σ H s'->Q (.int kvs.length t) s'):wpAny (model X.prog X.w) A (call (.builtin "len") [.ref a]) Q E s:=by
 obtain⟨z,hd,vs,rel,dd⟩:=dk_rd I.hok e
 refine call_len_dict hd dd (by rw[<-rel.length];rw[sizeLine_eq] at z;omega) ?_
 rw[<-rel.length]
 exact h _ _ (I.tok _)
end
def NoSl (i:Expr):Prop:=∀ov iv,subscripted i false ov iv=operate [ov,iv] (getItem ov iv)
theorem subD_of {prog:Program}{w:World}{A:Around}{E:Value->Shared->Prop}{s:Shared}{env:Env}{value slice:Expr}{pos:Pos}{T id:String}{Q:Value->Shared->Prop}
  (hl:typeLookup (.type T) "__getitem__" = pure (some (.builtin id))) (hs:NoSl slice)
  (h:wpAny (model prog w) A (eval value env) (fun o s₁=>wpAny (model prog w) A (eval slice env) (fun i s₂=>s₂.TypeIs o T/\wpAny (model prog w) A (getItem o i) Q E s₂) E s₁) E s) :
  wpAny (model prog w) A (eval (.Subscript value slice pos) env) Q E s:=by
 refine Subscript_ (wpAny_mono h (fun o s₁ h₁=>wpAny_mono h₁ (fun i s₂ h₂=>?_) fun _ _ x=>x) fun _ _ x=>x)
 obtain⟨hT,h₂⟩:=h₂
 unfold subscriptTail
 refine wpAny_bind ?_
 rw[getitemInPython_of_ne hT.not_modules]
 refine wpAny_bind (wpAny_specialOf hT hl ?_)
 have fin:wpAny (model prog w) A (subscripted slice false o i) (fun r s₃=>wpAny (model prog w) A (letTemporaryGo value o r>>=fun _=>pure r) Q E s₃) E s₂:=by
  rw[hs o i]
  exact wpAny_operating (wpAny_mono h₂ (fun r s₃ h₃=>wpAny_bind (wpAny_letTemporaryGo (wpAny_pure h₃))) fun _ _ x=>x)
 first
  |exact wpAny_pure (wpAny_bind fin)
  |exact wpAny_bind (wpAny_pure (wpAny_bind fin))
  |exact wpAny_bind fin
def tDIn (ty td:TE):TE:=fun σ H Q=>ty σ H fun y H1=>td σ H1 fun x H2=>∃a o,x=.ref a/\DGet H2 a y o/\Q (.bl o.isSome) H2
def sDPut (td ty tv:TE):TS:=fun D σ H=>tv σ H fun v H1=>td σ H1 fun x H2=>ty σ H2 fun y H3=>∃a H4,x=.ref a/\DPut H3 a y v H4/\D.nx σ H4
section
variable {X:Cx} {o i e value:Expr} {pos pos' tpos:Pos} {td ty tv:TE}
theorem pc_din (hu:X.A.units+1<cLine)(hi:PE X i ty)(ho:PE X o td):PC X .In i o (tDIn ty td):=by
 intro pins s σ H Q I h
 refine thn (hi pins s σ H _ I h) fun iv s1 ⟨y,H1,I1,ry,q1⟩=>thn (ho pins s1 σ H1 _ I1 q1) fun u s2 ⟨x,H2,I2,rx,a,ov,ex,g,q2⟩=>?_
 subst ex
 obtain rfl:u=Value.ref a:=rx
 exact d_in hu I2 g ry fun s3 I3=>⟨.bl ov.isSome,H2,I3,rfl,q2⟩
theorem ps_dput (hu:X.A.units+1<cLine)(ho:PE X o td)(hi:PE X i ty)(hv:PE X value tv)(hs:swapsWith value (some (.Subscript o i pos')) pos.line X.env=pure false) :
  PS X (.Assign [.Subscript o i pos'] value pos) (sDPut td ty tv):=by
 intro pins s σ H D I h
 refine wpAny_Assign_Subscript (thn (hv pins s σ H _ I h) fun r s1 ⟨v,H1,I1,rv,q1⟩=>thn (ho pins s1 σ H1 _ I1 q1) fun u s2 ⟨x,H2,I2,rx,q2⟩=>thn (hi pins s2 σ H2 _ I2 q2) fun iv s3 ⟨y,H3,I3,ry,a,H4,ex,g,q3⟩=>?_) hs
 subst ex
 obtain rfl:u=Value.ref a:=rx
 exact d_setItem hu I3 g ry rv fun s4 I4=>⟨σ,H4,I4,q3⟩
end
theorem dk_empty {P:Program}{w:World}{H:Hp}(h:Heap)(hb:sysModules<h.objs.size):ObjOk P w H (h.push { cls:=.type "dict", data:=.dict #[] }) h.objs.size (.dK []) :=
 ⟨Nat.zero_le _,beq_eq_false_iff_ne.mpr (Ne.symm (Nat.ne_of_lt hb)),[],.nil,Heap.DictOf.new h⟩
theorem dt_empty {P:Program}{w:World}{H:Hp}(h:Heap)(hb:sysModules<h.objs.size):ObjOk P w H (h.push { cls:=.type "dict", data:=.dict #[] }) h.objs.size (.dT []) :=
 ⟨Nat.zero_le _,beq_eq_false_iff_ne.mpr (Ne.symm (Nat.ne_of_lt hb)),[],.nil,_,#[],0,Heap.get?_push_size _ rfl,⟨rfl,rfl,rfl⟩,rfl,rfl,List.nodup_nil⟩
def tDNewK:TE:=fun _ H Q=>∀p,H p=none->Q (.ref p) (upd H p (.dK []))
def tDNewT:TE:=fun _ H Q=>∀p,H p=none->Q (.ref p) (upd H p (.dT []))
section
variable {X:Cx} {pos:Pos}
theorem pe_dnewK:PE X (.Dict [] [] pos) tDNewK:=fun pins s σ H Q I h =>
 wpAny_Dict_empty ⟨.ref s.heap.objs.size,_,I.laid (a:=s.heap.objs.size) (o:=.dK []) (t':=s.toks) (fun _ _ q=>Heap.get?_push_of_some _ q) (Nat.le_refl _) (dk_empty s.heap I.big),rfl,h _ (I.hok.fresh (Nat.le_refl _))⟩
theorem pe_dnewT:PE X (.Dict [] [] pos) tDNewT:=fun pins s σ H Q I h =>
 wpAny_Dict_empty ⟨.ref s.heap.objs.size,_,I.laid (a:=s.heap.objs.size) (o:=.dT []) (t':=s.toks) (fun _ _ q=>Heap.get?_push_of_some _ q) (Nat.le_refl _) (dt_empty s.heap I.big),rfl,h _ (I.hok.fresh (Nat.le_refl _))⟩
end
end L2
namespace Att
open PySem PySem.W PySem.Calls PyProof.Rows
theorem ints_of_wellAll {P:Params}{h:Heap}:∀(ns:List Int) (vs:List Value),WellAll P h vs (ns.map WData.int)->IntsAre vs ns:=by
 intro ns
 induction ns with
 |nil =>
  intro vs w
  rw[List.map_nil] at w
  cases w
  exact .nil
 |cons n ns ih =>
  intro vs w
  rw[List.map_cons] at w
  cases w with
  |cons a b =>
   cases a
   exact .cons _ _ (ih _ b)
theorem script_of {l:OpenLaw}{n:Nat}(hn:l.most=some n){P:Params}{h:Heap}{args:List WData}{vals:List Value}(hpre:l.row.toRowW.claim.pre args=true)(hwl:WellAll P h vals args) :
  ∃a vs ns,vals=[Value.ref a]/\args=[WData.list (ns.map WData.int)]/\h.get? a=some { cls:=.type "list", data:=.seq vs.toArray }/\IntsAre vs ns/\ns.length<=n:=by
 have hsh:WShape.hasAll [] args [.list .int]=true:=(pre_splitW hpre).1
 have hc:l.pre.holds [] { args:=args }=true:=(pre_splitW hpre).2
 obtain⟨d,r,rfl,h1,h2⟩:=hasAllW_cons hsh
 obtain rfl:=hasAllW_nil h2
 obtain⟨xs,rfl,h3⟩:=hasW_list h1
 obtain⟨ns,rfl⟩:=items_int h3
 have hlen:ns.length<=n:=by
  unfold OpenLaw.pre at hc
  have h4:(WTm.not (.lt (.lit (.int (n:Int))) (.len (.arg 0)))).holds [] { args:=[.list (ns.map .int)] }=true:=by
   have h4:=(holds_andW hc).1
   rw[hn] at h4
   exact h4
  have h5:=condW_of h4 (w_not (w_lt w_lit (w_len_list (w_arg rfl))))
  rw[List.length_map] at h5
  refine Nat.le_of_not_lt fun q=>?_
  have q':(n:Int)<((ns.length:Nat):Int):=by omega
  first
   |(rw[decide_eq_true q'] at h5;exact absurd h5 (by decide))
   |(simp at h5;omega)
 cases hwl with
 |cons w1 w2 =>
  cases w2
  cases w1 with
  |list ho hall=>exact⟨_,_,ns,rfl,rfl,ho,ints_of_wellAll ns _ hall,hlen⟩
theorem post_true (l:OpenLaw)(args:List WData):l.row.toRowW.claim.post args (.bool true) args=true :=
 postW_of (r:=l.row.toRowW) (X:=(true==true))
  (show WShape.has [] (.bool true) .bool=true by first|rfl|decide|simp[WShape.has,WShape.arms,WShape.armsAll])
  (show(WTm.eq .res (.lit (.bool true))).value [] { args:=args,res:=some (.bool true),after:=args }=some (.bool (true==true)) from w_eq_bool (w_res rfl) w_lit) rfl
theorem attach_call {l:OpenLaw}{n:Nat}{q:Program}{loose:List Str}{XP:(Str->Option Value)->Heap->Prop}{YP:World->Heap->Prop}{d:DefRec}(hn:l.most=some n)(hdf:d.params.defaults=[])
  (call:∀(w:World) (s₀ s₁:Shared) (mg mb:Str->Option Value) (fa:Addr) (o:Obj) (pm cd doc:Value) (a:Addr) (vs:List Value) (ns:List Int),
   Ground q loose [] XP w s₀ mg mb s₁.heap->YP w s₁.heap ->
   s₁.heap.get? fa=some o->o.data=.func (docDef d.name d.params d.body d.scope pm cd doc)->s₁.heap.CodeRec cd d.name->mg d.name=some (.ref fa) ->
   s₁.heap.get? a=some { cls:=.type "list", data:=.seq vs.toArray }->IntsAre vs ns->ns.length<=n->s₁.gens=#[] ->
   codeAny (model l.prog w) callerA (.call (.ref fa) ⟨[.ref a],[]⟩) (fun r s'=>r=.ok (.ret (.bool true))/\OldK s₁.heap s'.heap/\s'.os=s₁.os/\AllBare s'.gens) s₁) :
  WalkO q loose XP YP l.row.toRowW d [] (fun f vs=>PySem.call f vs):=by
 intro w s₀ s₁ mg mb G Y fa o pm cd doc dV kV ho hd hcd hD hmg hg args vals as hpre hlay hrd hwl hlo
 obtain rfl:dV=.none:=Dflts.none hD hdf
 obtain rfl:kV=.none:=Dflts.noKw hD
 obtain⟨a,vs,ns,rfl,rfl,hobj,hints,hlen⟩:=script_of hn hpre hwl
 refine enter_call (codeAny_mono (call w s₀ s₁ mg mb fa o pm cd doc a vs ns G Y ho (fd_plain hd) hcd hmg hobj hints hlen hg) fun r s' hq=>?_)
 obtain⟨rfl,h2,h3,h4⟩:=hq
 exact⟨.inl ⟨.bool true,.bool true,[],rfl,fun _=>rfl,.bool true,post_true l _,fun _=>⟨List.Pairwise.nil,fun _ hm=>(nomatch hm)⟩⟩,h2,h3,h4⟩
end Att
namespace L2
open PySem PySem.Spec PyProof.Rows
theorem vals_ints:∀{vs:List Value} {ns:List Int},IntsAre vs ns->Vals (ns.map V.int) vs
 |_,_,.nil=>.nil
 |_,_,.cons n t h=>.cons ⟨t,rfl⟩ (vals_ints h)
def Only (H:Hp):Prop:=∀b,H b=none\/∃o xs,H b=some (.frz o (.lst xs))
theorem law_call {P:Program}{w:World}{K:PySem.W.Frag}{mg mb:Str->Option Value}{CX:CXT}{k:Nat}{fa a:Addr}{fd:FuncData}{x:Str}{sp:Sp}{s₁:Shared}{vs:List Value}{ns:List Int}(KX:K.In s₁.heap)(hns:s₁.heap.Ns mainGlobals mg)(hb:s₁.heap.Ns builtinsNs mb) (hbb:∀x:Str,x ≠ "__name__"->mb x=bootBuiltins x) (hlim:s₁.heap.NoLimit) (hg:s₁.gens=#[])
  (ha:s₁.heap.get? a=some { cls:=.type "list", data:=.seq vs.toArray }) (hi:IntsAre vs ns) (hl:ns.length<=sizeLine) (hr:Room k callerA)
  (F:∀base:Heap,K.In base->base.Ns mainGlobals mg->FnOk P w K mg base CX k fa fd [x] sp) (hbind:∀(s:Shared) (u:Value),BindsTo s fd ⟨[u],[]⟩ [(x,u)])
  (hsp:∀H:Hp,Only H->SqL K H a (ns.map V.int)->sp [.ref a] H (fun v _=>v=.bl true) fun _ _ _=>False)
  (hCX:∀H e s',CX [] H s₁ (fun _ _ _=>False) e s'->False) :
  codeAny (model P w) callerA (.call (.ref fa) ⟨[.ref a],[]⟩) (fun r s'=>r=.ok (.ret (.bool true))/\OldK s₁.heap s'.heap/\s'.os=s₁.os/\AllBare s'.gens) s₁:=by
 have rv:=vals_ints hi
 have lenV:=hi.length
 have core:∀H:Hp,Only H->SqL K H a (ns.map V.int)->HOk P w H s₁.heap->(∀b,H b≠none->b=a)->(H a≠none->K.lookup a=none) ->
   codeAny (model P w) callerA (.call (.ref fa) ⟨[.ref a],[]⟩) (fun r s'=>r=.ok (.ret (.bool true))/\OldK s₁.heap s'.heap/\s'.os=s₁.os/\AllBare s'.gens) s₁:=by
  intro H hO hS hok hA hK
  have base_of:∀{b:Addr} {o:Obj},s₁.heap.get? b=some o->H b=none->(hidT s₁.heap H).get? b=some o:=fun e n=>hidT_get e n
  have noA:∀{b:Addr} {o:Obj} {es:Array DictEntry} {ep:Nat},s₁.heap.get? b=some o->o.data=.dict es ep->H b=none:=fun {b o es ep} e d=>by
   cases q:H b with
   |none=>rfl
   |some u =>
    have e':b=a:=hA b (by rw[q];simp)
    subst e'
    rw[ha] at e;cases e
    have d':Data.seq vs.toArray _=Data.dict es ep:=d
    cases d'
  have nsK:∀{b:Addr} {m:Str->Option Value},s₁.heap.Ns b m->(hidT s₁.heap H).Ns b m:=fun {b m} ⟨o,es,ep,e,d,r⟩=>⟨o,es,ep,base_of e (noA e d),d,r⟩
  have hKb:K.In (hidT s₁.heap H):=fun b o e=>base_of (KX b o e) (by
   cases q:H b with
   |none=>rfl
   |some u =>
    have e':b=a:=hA b (by rw[q];simp)
    subst e'
    rw[hK (by rw[q];simp)] at e;cases e)
  have hM:Mod K mg (hidT s₁.heap H):=⟨hKb,nsK hns,⟨mb,nsK hb,hbb⟩,let ⟨mc,h1,h2⟩:=hlim;⟨mc,nsK h1,h2⟩⟩
  have e0:Env0 P w K mg (hidT s₁.heap H) callerA [] s₁ H:=⟨rfl,hM,fun b o e=>of_hidT e,Nat.le_of_eq (hidT_size _ _),trivial,fun b hb=>absurd (show b∈([]:List Addr) from hb) (by simp),hok,.of_eq hg⟩
  refine codeAny_mono ((F _ hKb (nsK hns)).run callerA [] s₁ H ⟨[.ref a],[]⟩ [.ref a] [.ref a] _ _ hr e0 (hbind s₁ (.ref a)) (.cons rfl .nil) (hsp H hO hS)) fun r s' h=>?_
  cases r with
  |error e=>exact(hCX H e s' h).elim
  |ok fl =>
   cases fl with
   |next=>exact False.elim h
   |brk=>exact False.elim h
   |cont=>exact False.elim h
   |ret u =>
    obtain⟨v,H',os,bare,un,hok',r',q⟩:=h
    have q':v=.bl true:=q
    subst q'
    obtain rfl:u=Value.bool true:=r'
    refine⟨rfl,OldK.of_keep fun b o e=>?_,os,bare⟩
    cases q:H b with
    |none=>exact un.keep b o e q (by intro z;exact absurd (show b∈([]:List Addr) from z) (by simp)) (by simp)
    |some u =>
     rcases hO b with z|⟨ob,xs,z⟩
     ·rw[q] at z;cases z
     ·have z2:=un.frzs b ob _ z
      obtain⟨e1,_⟩:=hok b _ z
      obtain⟨e2,_⟩:=hok' b _ z2
      rw[e] at e1;cases e1
      exact e2
 cases hk:K.lookup a with
 |some o =>
  have e:=KX a o hk
  rw[ha] at e
  cases e
  refine core (fun _=>none) (fun _=>.inl rfl) (.inr ⟨_,vs.toArray,_,hk,rfl,rfl,rfl,by rw[List.size_toArray,lenV];exact hl,by simpa using rv⟩) (fun b u z=>by have z':(none:Option HO)=some u:=z;cases z') (fun b z=>absurd rfl z) fun z=>absurd rfl z
 |none =>
  refine core (fun b=>if b=a then some (.frz { cls:=.type "list", data:=.seq vs.toArray } (.lst (ns.map V.int))) else none) (fun b=>?_) (.inl (.inr ⟨{ cls:=.type "list", data:=.seq vs.toArray },if_pos rfl⟩)) (fun b u z=>?_) (fun b z=>?_) fun _=>hk
  ·by_cases hb:b=a
   ·exact .inr ⟨_,_,if_pos hb⟩
   ·exact .inl (if_neg hb)
  ·by_cases hb:b=a
   ·have z':=(if_pos hb).symm.trans z
    cases z'
    subst hb
    exact⟨ha,by rw[List.length_map];exact hl,vs,_,rv,ha⟩
   ·have z':=(if_neg hb).symm.trans z
    cases z'
  ·by_cases hb:b=a
   ·exact hb
   ·exact absurd (if_neg hb) z
theorem walk_of {l:PySem.W.OpenLaw}{n k:Nat}{q:Program}{loose:List Str}{XP:(Str->Option Value)->Heap->Prop}{YP:World->Heap->Prop}{d:DefRec}{K:Params->PySem.W.Frag}{CX:World->CXT}{sp:World->Sp}{x:Str}(hn:l.most=some n)(hn2:n<=sizeLine)(hdf:d.params.defaults=[])(hr:Room k callerA)(hY:∀(w:World) (h:Heap),YP w h->(K w.params).In h)(F:∀(w:World) (mg:Str->Option Value) (fa:Addr) (h:Heap),(K w.params).In h->h.Ns mainGlobals mg->mg d.name=some (.ref fa) ->
   ∃fd:FuncData,(∀(s:Shared) (u:Value),BindsTo s fd ⟨[u],[]⟩ [(x,u)]) /\
    ∀base:Heap,(K w.params).In base->base.Ns mainGlobals mg->FnOk l.prog w (K w.params) mg base (CX w) k fa fd [x] (sp w))(hsp:∀(w:World) (H:Hp) (a:Addr) (ns:List Int),ns.length<=n->Only H->SqL (K w.params) H a (ns.map V.int)->sp w [.ref a] H (fun v _=>v=.bl true) fun _ _ _=>False)(hCX:∀(w:World) (H:Hp) (s:Shared) (e:Value) (s':Shared),CX w [] H s (fun _ _ _=>False) e s'->False) :
  PySem.W.WalkO q loose XP YP l.row.toRowW d [] (fun f vs=>PySem.call f vs):=by
 refine Att.attach_call hn hdf fun w s₀ s₁ mg mb fa o pm cd doc a vs ns G Y ho hd hcd hmg hobj hints hlen hg=>?_
 have KX:=hY w _ Y
 obtain⟨fd,hb,hF⟩:=F w mg fa _ KX G.T.g hmg
 exact law_call KX G.T.g G.T.b G.T.builtins G.T.nolimit hg hobj hints (Nat.le_trans hlen hn2) hr hF hb (fun H hO hS=>hsp w H a ns hlen hO hS) fun H e s'=>hCX w H s₁ e s'
def Q8 (s:Stmt):Arguments:=match s with
 |.FunctionDef _ a _ _ _ _ _ _ _ _=>a
 |_=>{ posonlyargs:=[],args:=[],vararg:=none,kwonlyargs:=[],kw_defaults:=[],kwarg:=none,defaults:=[] }
def Z7 (s:Stmt):List Stmt:=match s with
 |.FunctionDef _ _ b _ _ _ _ _ _ _=>b
 |_=>[]
def Zg (s:Stmt):Scope:=match s with
 |.FunctionDef _ _ _ _ _ _ sc _ _ _=>sc
 |_=>{ kind:=.function,names:=[],isGenerator:=false,isCoroutine:=false }
abbrev CX0:CXT:=fun _ _ _ _ _ _=>False
abbrev E0:XK:=fun _ _ _=>False
theorem pass0 {X:Cx}:Xl CX0 X E0:=fun _ _ _ _ _ _ _ h=>h.elim
structure Fun (K:PySem.W.Frag) (x qual:Str) (st:Stmt) (f:Addr) (fd:FuncData):Prop where
 ex:∃(oc:Value) (od:Option Addr) (kV doc pm:Value) (an:Option Addr) (cdv ct:Value) (osl:Array (Option Value)),
  fd=PySem.W.fnOf x qual (Q8 st) (Z7 st) (Zg st) .none kV doc pm an cdv ct/\K.lookup f=some ⟨oc,od,.func fd,osl⟩/\PySem.W.codeIn K cdv qual=true
 kp:PySem.W.keepIn K (.ref f)=true
section
variable {P:Program} {w:World} {K:PySem.W.Frag} {mg:Str->Option Value} {base:Heap}
theorem Fun.ok {x qual:Str}{st:Stmt}{f:Addr}{fd:FuncData}{N ps:List Str}{k:Nat}{sp:Sp}(F:Fun K x qual st f fd)(S:FnScope N ps (Zg st))(len:∀vs H Q E,sp vs H Q E->vs.length=ps.length)(hbody:∀(cdv:Value) (A:Around) (outer:List Env) (s:Shared) (H:Hp) (vs:List V) (Q:VK) (E:XK),Room k (A.deeper (envOfC qual (Zg st) s.heap.objs.size f cdv))->sp vs H Q E ->
   ∃t,PSs (cxOf CX0 P w K mg base N qual (Zg st) f cdv A outer s H E).nox (Z7 st) t/\t { nx:=fun _ H'=>Q .non H',rt:=Q } (Xe N vs) H):FnOk P w K mg base CX0 (k+1) f fd ps sp:=by
 obtain⟨oc,od,kV,doc,pm,an,cdv,ct,osl,rfl,lk,hcd⟩:=F.ex
 refine fn_of lk hcd S len fun A outer s H vs Q E hr hsp=>?_
 obtain⟨t,h,q⟩:=hbody cdv A outer s H vs Q E hr hsp
 exact⟨t,h.nox,q⟩
theorem Fun.binds {x qual:Str}{st:Stmt}{f:Addr}{fd:FuncData}{ps:List Str}(F:Fun K x qual st f fd)(h:∀(kV doc pm:Value) (an:Option Addr) (cdv ct:Value) (us:List Value),us.length=ps.length->bindArgs (PySem.W.fnOf x qual (Q8 st) (Z7 st) (Zg st) .none kV doc pm an cdv ct) ⟨us,[]⟩=pure (ps.zip us)):Binds K fd ps []:=by
 obtain⟨oc,od,kV,doc,pm,an,cdv,ct,osl,rfl,lk,hcd⟩:=F.ex
 exact .all (h kV doc pm an cdv ct)
theorem fun_mk {x qual:Str}{st:Stmt}{f:Addr}{oc:Value}{od an:Option Addr}{osl:Array (Option Value)}{kV doc pm cdv ct:Value}(l:K.lookup f=some ⟨oc,od,.func (PySem.W.fnOf x qual (Q8 st) (Z7 st) (Zg st) .none kV doc pm an cdv ct),osl⟩)(c:PySem.W.codeIn K cdv qual=true)(k:PySem.W.keepIn K (.ref f)=true):Fun K x qual st f (PySem.W.fnOf x qual (Q8 st) (Z7 st) (Zg st) .none kV doc pm an cdv ct):=⟨⟨oc,od,kV,doc,pm,an,cdv,ct,osl,rfl,l,c⟩,k⟩
end
def Same (H H':Hp):Prop:=∀b o,H b=some o->H' b=some o
theorem Same.refl (H:Hp):Same H H:=fun _ _ h=>h
theorem Same.trans {H H1 H2:Hp}(a:Same H H1)(b:Same H1 H2):Same H H2:=fun c o h=>b c o (a c o h)
theorem Same.free {H H':Hp}(e:Same H H'){l:Addr}(h:H' l=Option.none):H l=Option.none:=by
 cases q:H l with
 |none=>rfl
 |some o =>
  rw[e l o q] at h
  cases h
theorem Same.seq {K:PySem.W.Frag}{H H':Hp}{a:Addr}{xs:List V}(e:Same H H')(h:SqL K H a xs):SqL K H' a xs:=by
 rcases h with(h|⟨o,h⟩)|h
 ·exact .inl (.inl (e _ _ h))
 ·exact .inl (.inr ⟨o,e _ _ h⟩)
 ·exact .inr h
section
variable {X:Cx}
theorem call_lenD:CallR X (.builtin "len") (fun xs H Q=>∃a kvs,xs=[V.ref a]/\H a=some (.dK kvs)/\Q (.int kvs.length) H):=by
 intro pins s σ H xs us Q I r h
 obtain⟨a,kvs,rfl,ha,q⟩:=h
 obtain⟨u,rfl,ru⟩:=vals1 r
 cases ru
 exact d_len I (.inl ha) fun t s' I'=>⟨.int kvs.length,H,I',⟨t,rfl⟩,q⟩
end
end L2
namespace DL
open PySem PySem.Spec PyProof.Rows L2
inductive D where
 |non|bl (b:Bool)|int (i:Int)|str (x:Str)|tup (ds:List D)|lst (ds:List D)
structure XV where
 cls:Str
 ns:List Str
 ds:List D
inductive M (α:Type) where
 |ok (a:α)|ex (x:XV)|bad
def M.bind {α β:Type}(r:M α)(k:α->M β):M β:=match r with
 |.ok a=>k a
 |.ex x=>.ex x
 |.bad=>.bad
@[simp] theorem M.bind_ok {α β:Type}(a:α)(k:α->M β):(M.ok a).bind k=k a:=rfl
@[simp] theorem M.bind_ex {α β:Type}(x:XV)(k:α->M β):(M.ex x:M α).bind k=.ex x:=rfl
@[simp] theorem M.bind_bad {α β:Type}(k:α->M β):(M.bad:M α).bind k=.bad:=rfl
inductive S where
 |im (d:D)|ow (ds:List D)|od (kvs:List (List Key×D))|dk (kvs:List (Key×D))|xc (x:XV)|fn (x:Str)|ob (a:Addr) (c:Str) (r:List (Str×D))|fl (a:Addr) (hall:D) (sqs:List (List Key×D))
def S.own:S->Bool
 |.im _=>false
 |.xc _=>false
 |.fn _=>false
 |.ob _ _ _=>false
 |.fl _ _ _=>false
 |_=>true
abbrev DSt:=List (Option S)
section
variable (K:PySem.W.Frag) (H:Hp)
mutual
def Rep:D->V->Prop
 |.non,v=>v=.non
 |.bl b,v=>v=.bl b
 |.int i,v=>v=.int i
 |.str x,v=>v=.str x
 |.tup ds,v=>∃a xs,v=.ref a/\H a=some (.tup xs)/\Reps ds xs
 |.lst ds,v=>∃a xs,v=.ref a/\SqL K H a xs/\Reps ds xs
def Reps:List D->List V->Prop
 |[],xs=>xs=[]
 |d::ds,xs=>∃x r,xs=x::r/\Rep d x/\Reps ds r
end
end
def RepKV (K:PySem.W.Frag)(H:Hp){κ:Type}:List (κ×D)->List (κ×V)->Prop:=Paired fun p q=>p.1=q.1/\Rep K H p.2 q.2
def S.at (K:PySem.W.Frag)(Hf H:Hp)(p:Addr):S->Prop
 |.im _=>False
 |.xc _=>False
 |.fn _=>False
 |.ob _ _ _=>False
 |.fl _ _ _=>False
 |.ow ds=>∃xs,H p=some (.lst xs)/\Reps K Hf ds xs
 |.od kvs=>∃ys,H p=some (.dT ys)/\RepKV K Hf kvs ys
 |.dk kvs=>∃ys,H p=some (.dK ys)/\RepKV K Hf kvs ys
theorem _root_.L2.Same.seqT {K:PySem.W.Frag}{H H':Hp}{a:Addr}{xs:List V}(e:Same H H')(h:SqT K H a xs):SqT K H' a xs:=by
 rcases h with(h|⟨o,h⟩)|h
 ·exact .inl (.inl (e _ _ h))
 ·exact .inl (.inr ⟨o,e _ _ h⟩)
 ·exact .inr h
section
variable {K:PySem.W.Frag} {H H':Hp}
mutual
theorem Rep.mono (e:Same H H'):∀{d:D} {v:V},Rep K H d v->Rep K H' d v
 |.non,_,h=>by unfold Rep at h ⊢;exact h
 |.bl _,_,h=>by unfold Rep at h ⊢;exact h
 |.int _,_,h=>by unfold Rep at h ⊢;exact h
 |.str _,_,h=>by unfold Rep at h ⊢;exact h
 |.tup ds,_,h=>by
  unfold Rep at h ⊢
  obtain⟨a,xs,e1,e2,e3⟩:=h
  exact⟨a,xs,e1,e _ _ e2,Reps.mono e e3⟩
 |.lst ds,_,h=>by
  unfold Rep at h ⊢
  obtain⟨a,xs,e1,e2,e3⟩:=h
  exact⟨a,xs,e1,e.seq e2,Reps.mono e e3⟩
theorem Reps.mono (e:Same H H'):∀{ds:List D} {xs:List V},Reps K H ds xs->Reps K H' ds xs
 |[],_,h=>by unfold Reps at h ⊢;exact h
 |d::ds,_,h=>by
  unfold Reps at h ⊢
  obtain⟨x,r,e1,e2,e3⟩:=h
  exact⟨x,r,e1,Rep.mono e e2,Reps.mono e e3⟩
end
theorem rep_non {v:V}:Rep K H .non v↔v=.non:=by unfold Rep;exact Iff.rfl
theorem rep_bl {b:Bool}{v:V}:Rep K H (.bl b) v↔v=.bl b:=by unfold Rep;exact Iff.rfl
theorem rep_int {i:Int}{v:V}:Rep K H (.int i) v↔v=.int i:=by unfold Rep;exact Iff.rfl
theorem rep_str {x:Str}{v:V}:Rep K H (.str x) v↔v=.str x:=by unfold Rep;exact Iff.rfl
theorem rep_tup {ds:List D}{v:V}:Rep K H (.tup ds) v↔∃a xs,v=.ref a/\H a=some (.tup xs)/\Reps K H ds xs:=by rw[Rep]
theorem Z2 {ds:List D}{v:V}(h:Rep K H (.tup ds) v):∃a xs,v=.ref a/\SqT K H a xs/\Reps K H ds xs:=by
 obtain⟨a,xs,e1,e2,e3⟩:=rep_tup.mp h
 exact⟨a,xs,e1,SqT.of e2,e3⟩
theorem rep_lst {ds:List D}{v:V}:Rep K H (.lst ds) v↔∃a xs,v=.ref a/\SqL K H a xs/\Reps K H ds xs:=by rw[Rep]
theorem reps_nil {xs:List V}:Reps K H [] xs↔xs=[]:=by rw[Reps]
theorem reps_cons {d:D}{ds:List D}{xs:List V}:Reps K H (d::ds) xs↔∃x r,xs=x::r/\Rep K H d x/\Reps K H ds r:=by rw[Reps]
theorem Reps.nil:Reps K H [] []:=reps_nil.mpr rfl
theorem Reps.cons {d:D}{ds:List D}{x:V}{xs:List V}(h:Rep K H d x)(t:Reps K H ds xs):Reps K H (d::ds) (x::xs):=reps_cons.mpr ⟨x,xs,rfl,h,t⟩
theorem Reps.length:∀{ds:List D} {xs:List V},Reps K H ds xs->ds.length=xs.length
 |[],_,h=>by rw[reps_nil.mp h];rfl
 |d::ds,_,h=>by
  obtain⟨x,r,rfl,_,t⟩:=reps_cons.mp h
  rw[List.length_cons,List.length_cons,Reps.length t]
theorem Reps.get:∀{ds:List D} {xs:List V} {i:Nat} {d:D},Reps K H ds xs->ds[i]?=some d->∃x,xs[i]?=some x/\Rep K H d x
 |[],_,_,_,_,e=>by simp at e
 |_::ds,_,0,_,h,e=>by
  obtain⟨x,r,rfl,q,t⟩:=reps_cons.mp h
  simp at e;subst e;exact⟨x,rfl,q⟩
 |_::ds,_,i+1,_,h,e=>by
  obtain⟨x,r,rfl,q,t⟩:=reps_cons.mp h
  obtain⟨y,e1,e2⟩:=Reps.get (i:=i) t (by simpa using e)
  exact⟨y,by simpa using e1,e2⟩
theorem Reps.append:∀{ds es:List D} {xs ys:List V},Reps K H ds xs->Reps K H es ys->Reps K H (ds++es) (xs++ys)
 |[],_,_,_,h,t=>by rw[reps_nil.mp h];exact t
 |_::ds,_,_,_,h,t=>by
  obtain⟨x,r,rfl,q,u⟩:=reps_cons.mp h
  exact .cons q (Reps.append u t)
theorem Reps.take:∀{ds:List D} {xs:List V} (n:Nat),Reps K H ds xs->Reps K H (ds.take n) (xs.take n)
 |_,_,0,_=>by simpa using Reps.nil
 |[],_,n+1,h=>by rw[reps_nil.mp h];simpa using Reps.nil
 |_::ds,_,n+1,h=>by
  obtain⟨x,r,rfl,q,u⟩:=reps_cons.mp h
  exact .cons q (Reps.take n u)
theorem Reps.drop:∀{ds:List D} {xs:List V} (n:Nat),Reps K H ds xs->Reps K H (ds.drop n) (xs.drop n)
 |_,_,0,h=>by simpa using h
 |[],_,n+1,h=>by rw[reps_nil.mp h];simpa using Reps.nil
 |_::ds,_,n+1,h=>by
  obtain⟨x,r,rfl,q,u⟩:=reps_cons.mp h
  exact Reps.drop n u
theorem Reps.none_of {ds:List D}{xs:List V}{i:Nat}(h:Reps K H ds xs)(e:ds[i]?=none):xs[i]?=none:=by
 have:=h.length
 rw[List.getElem?_eq_none_iff] at e ⊢
 lia
end
theorem RepKV.mono {K:PySem.W.Frag}{H H':Hp}(e:Same H H'){κ:Type}{a:List (κ×D)}{b:List (κ×V)}(r:RepKV K H a b):RepKV K H' a b:=Paired.mapP r fun _ _ q=>⟨q.1,q.2.mono e⟩
theorem at_some {K:PySem.W.Frag}{Hf H:Hp}{p:Addr}{s:S}(h:S.at K Hf H p s):∃o,H p=some o:=by
 cases s with
 |im d=>exact h.elim
 |xc x=>exact h.elim
 |fn x=>exact h.elim
 |ob a c r=>exact h.elim
 |fl a g q=>exact h.elim
 |ow ds=>obtain⟨xs,e,_⟩:=h;exact⟨_,e⟩
 |od kvs=>obtain⟨ys,e,_⟩:=h;exact⟨_,e⟩
 |dk kvs=>obtain⟨ys,e,_⟩:=h;exact⟨_,e⟩
theorem at_move {K:PySem.W.Frag}{Hf Hf' H H':Hp}{p:Addr}{s:S}(h:S.at K Hf H p s)(e:Same Hf Hf')(q:∀o,H p=some o->H' p=some o):S.at K Hf' H' p s:=by
 cases s with
 |im d=>exact h.elim
 |xc x=>exact h.elim
 |fn x=>exact h.elim
 |ob a c r=>exact h.elim
 |fl a g q=>exact h.elim
 |ow ds=>obtain⟨xs,e1,e2⟩:=h;exact⟨xs,q _ e1,e2.mono e⟩
 |od kvs=>obtain⟨ys,e1,e2⟩:=h;exact⟨ys,q _ e1,e2.mono e⟩
 |dk kvs=>obtain⟨ys,e1,e2⟩:=h;exact⟨ys,q _ e1,e2.mono e⟩
def XO (a:Addr)(C:Addr)(dx:Option Addr):HO:=.ext fun h=>∃oe vs,h.get? a=some oe/\oe.cls=.ref C/\oe.dict=dx/\oe.data=.fields vs
def XF (Hf:Hp)(ns:List Str)(xs:List V):Option Addr->Prop
 |none=>ns=[]/\xs=[]
 |some dx=>Hf dx=some (.xd (ns.zip xs))/\ns.length=xs.length
theorem XF.mono {H H':Hp}(e:Same H H'){ns:List Str}{xs:List V}:∀{dx:Option Addr},XF H ns xs dx->XF H' ns xs dx
 |none,h=>h
 |some _,h=>⟨e _ _ h.1,h.2⟩
def RepE (K:PySem.W.Frag)(Hf:Hp)(x:XV)(v:V):Prop :=
 ∃a C dx xs,v=.ref a/\Hf a=some (XO a C dx)/\PySem.W.nsIn K mainGlobals x.cls=some (some (.ref C))/\XF Hf x.ns xs dx/\Reps K Hf x.ds xs
theorem RepE.mono {K:PySem.W.Frag}{H H':Hp}(e:Same H H'){x:XV}{v:V}(h:RepE K H x v):RepE K H' x v:=by
 obtain⟨a,C,dx,xs,e1,e2,e3,e4,e5⟩:=h
 exact⟨a,C,dx,xs,e1,e _ _ e2,e3,e4.mono e,e5.mono e⟩
def RepO (K:PySem.W.Frag)(Hf:Hp)(a:Addr)(c:Str)(r:List (Str×D))(v:V):Prop:=∃C dx gs,v=.ref a/\PySem.W.nsIn K mainGlobals c=some (some (.ref C))/\Hf a=some (.ins C dx gs)/\RepKV K Hf r gs
theorem RepO.mono {K:PySem.W.Frag}{H H':Hp}(e:Same H H'){a:Addr}{c:Str}{r:List (Str×D)}{v:V}(h:RepO K H a c r v):RepO K H' a c r v:=by
 obtain⟨C,dx,gs,e1,e2,e3,e4⟩:=h
 exact⟨C,dx,gs,e1,e2,e _ _ e3,e4.mono e⟩
structure FlG (K:PySem.W.Frag) (Hf:Hp) (g:D) (d q:Addr) (gs:List (Str×V)):Prop where
 hall:∃v,gs.lookup ("hall" : Str)=some v/\Rep K Hf g v
 sq:gs.lookup ("by_square" : Str)=some (.ref d)
 kn:gs.lookup ("known_faces" : Str)=some (.ref q)
 m1:gs.lookup ("people_at" : Str)=none
 m2:gs.lookup ("faces_at" : Str)=none
theorem FlG.mono {K:PySem.W.Frag}{H H':Hp}(e:Same H H'){g:D}{d q:Addr}{gs:List (Str×V)}(h:FlG K H g d q gs):FlG K H' g d q gs:=⟨let ⟨v,e1,e2⟩:=h.hall;⟨v,e1,e2.mono e⟩,h.sq,h.kn,h.m1,h.m2⟩
def RepFl (K:PySem.W.Frag)(Hf:Hp)(a:Addr)(g:D)(q:List (List Key×D))(v:V):Prop:=∃C dx gs d k ys,v=.ref a/\PySem.W.nsIn K mainGlobals "Floor" = some (some (.ref C))/\Hf a=some (.ins C dx gs)/\FlG K Hf g d k gs/\Hf d=some (.dT ys)/\RepKV K Hf q ys
theorem RepFl.mono {K:PySem.W.Frag}{H H':Hp}(e:Same H H'){a:Addr}{g:D}{q:List (List Key×D)}{v:V}(h:RepFl K H a g q v):RepFl K H' a g q v:=by
 obtain⟨C,dx,gs,d,k,ys,e1,e2,e3,e4,e5,e6⟩:=h
 exact⟨C,dx,gs,d,k,ys,e1,e2,e _ _ e3,e4.mono e,e _ _ e5,e6.mono e⟩
def RepS (K:PySem.W.Frag)(Hf:Hp):S->V->Prop
 |.im d,v=>Rep K Hf d v
 |.xc x,v=>RepE K Hf x v
 |.fn x,v=>∃a,v=.ref a/\PySem.W.nsIn K mainGlobals x=some (some (.ref a))
 |.ob a c r,v=>RepO K Hf a c r v
 |.fl a g q,v=>RepFl K Hf a g q v
 |_,_=>True
theorem RepS.mono {K:PySem.W.Frag}{H H':Hp}(e:Same H H'){t:S}{v:V}(h:RepS K H t v):RepS K H' t v:=by
 cases t with
 |im d=>exact Rep.mono e h
 |xc x=>exact RepE.mono e h
 |fn x=>exact h
 |ob a c r=>exact RepO.mono e h
 |fl a g q=>exact RepFl.mono e h
 |_=>trivial
def Lv (H:Hp)(a:Addr):Prop:=∃o,H a=some o/\∀xs,o≠.tup xs
theorem Lv.nn {H:Hp}{a:Addr}(h:Lv H a):H a≠none:=by
 obtain⟨o,e,_⟩:=h
 rw[e];simp
theorem Lv.lst {H:Hp}{a:Addr}{xs:List V}(e:H a=some (.lst xs)):Lv H a:=⟨_,e,fun _ q=>by cases q⟩
theorem _root_.L2.Same.lv {H H':Hp}(e:Same H H'){a:Addr}(h:Lv H a):Lv H' a:=let ⟨o,q,n⟩:=h;⟨o,e a o q,n⟩
theorem at_lv {K:PySem.W.Frag}{Hf H:Hp}{p:Addr}{s:S}(h:S.at K Hf H p s):Lv H p:=by
 cases s with
 |im d=>exact h.elim
 |xc x=>exact h.elim
 |fn x=>exact h.elim
 |ob a c r=>exact h.elim
 |fl a g q=>exact h.elim
 |ow ds=>obtain⟨xs,e,_⟩:=h;exact⟨_,e,fun _ q=>by cases q⟩
 |od kvs=>obtain⟨xs,e,_⟩:=h;exact⟨_,e,fun _ q=>by cases q⟩
 |dk kvs=>obtain⟨xs,e,_⟩:=h;exact⟨_,e,fun _ q=>by cases q⟩
structure Gr (Hf H Hf' H':Hp):Prop where
 fz:Same Hf Hf'
 sub:Same Hf' H'
 all:Same H H'
 ban:∀a,Lv H a->Hf a=none->Hf' a=none
theorem Gr.refl {Hf H:Hp}(h:Same Hf H):Gr Hf H Hf H:=⟨Same.refl _,h,Same.refl _,fun _ _ e=>e⟩
theorem Gr.trans {Hf H Hf1 H1 Hf2 H2:Hp}(a:Gr Hf H Hf1 H1)(b:Gr Hf1 H1 Hf2 H2):Gr Hf H Hf2 H2 :=
 ⟨a.fz.trans b.fz,b.sub,a.all.trans b.all,fun c h e=>b.ban c (a.all.lv h) (a.ban c h e)⟩
theorem Z1 {H:Hp}{p:Addr}(h:H p=none)(o:HO):Same H (upd H p o):=fun b u q=>by rw[Zj (Zk q h)];exact q
theorem _root_.L2.Same.upd {Hf H:Hp}(e:Same Hf H)(p:Addr)(o:HO):Same (L2.upd Hf p o) (L2.upd H p o):=fun b u q=>by
 by_cases hb:b=p
 ·subst hb;rw[Zn] at q ⊢;exact q
 ·rw[Zj hb] at q ⊢;exact e b u q
theorem Gr.alloc {Hf H:Hp}(e:Same Hf H){p:Addr}(h:H p=none)(o:HO):Gr Hf H (upd Hf p o) (upd H p o) :=
 ⟨Z1 (e.free h) o,Same.upd e p o,Z1 h o,fun a ha ea=>by
  have:a≠p:=fun z=>ha.nn (z▸h)
  rw[Zj this];exact ea⟩
structure SR (K:PySem.W.Frag) (H0:Hp) (B:Addr->Prop) (Hf:Hp) (sd:DSt) (σ:L2.St) (H:Hp):Prop where
 sub:Same Hf H
 all:Same H0 H
 ban:∀a,B a->Hf a=none
 bt:∀a,B a->Lv H0 a
 len:sd.length=σ.length
 imS:∀(i:Nat) (t:S),sd[i]?=some (some t)->t.own=false->∃v,σ[i]?=some (some v)/\RepS K Hf t v
 ow:∀(i:Nat) (t:S),sd[i]?=some (some t)->t.own=true->∃p,σ[i]?=some (some (.ref p))/\H0 p=none/\Hf p=none/\S.at K Hf H p t
 sep:∀(i j:Nat) (t u:S) (p:Addr),i≠j->sd[i]?=some (some t)->t.own=true->sd[j]?=some (some u)->u.own=true->σ[i]?=some (some (.ref p))->σ[j]?=some (some (.ref p))->False
section
variable {K:PySem.W.Frag} {H0 Hf Hf' H H':Hp} {B:Addr->Prop} {sd:DSt} {σ:L2.St}
theorem SR.im (r:SR K H0 B Hf sd σ H):∀(i:Nat) (d:D),sd[i]?=some (some (.im d))->∃v,σ[i]?=some (some v)/\Rep K Hf d v:=fun i _ e=>r.imS i _ e rfl
theorem SR.gr (r:SR K H0 B Hf sd σ H)(g:Gr Hf H Hf' H'):SR K H0 B Hf' sd σ H' where
 sub:=g.sub
 all:=r.all.trans g.all
 ban:=fun a h=>g.ban a (r.all.lv (r.bt a h)) (r.ban a h)
 bt:=r.bt
 len:=r.len
 imS:=fun i d e z=>let ⟨v,e1,e2⟩:=r.imS i d e z;⟨v,e1,e2.mono g.fz⟩
 ow:=fun i t e ho=>by
  obtain⟨p,e1,e2,e3,e4⟩:=r.ow i t e ho
  obtain⟨o,eo⟩:=at_some e4
  exact⟨p,e1,e2,g.ban p (at_lv e4) e3,at_move e4 g.fz fun o h=>g.all _ _ h⟩
 sep:=r.sep
theorem SR.set_st (r:SR K H0 B Hf sd σ H)(i:Nat){d:S}{v:V}(hd:d.own=false)(h:RepS K Hf d v):SR K H0 B Hf (sd.set i (some d)) (σ.set i (some v)) H where
 sub:=r.sub
 all:=r.all
 ban:=r.ban
 bt:=r.bt
 len:=by rw[List.length_set,List.length_set];exact r.len
 imS:=fun j d' e z=>by
  by_cases hj:i=j
  ·subst hj
   have hi:i<sd.length:=by
    have:=(List.getElem?_eq_some_iff.mp e).1;simpa using this
   rw[List.getElem?_set_self hi] at e
   cases e
   exact⟨v,by rw[List.getElem?_set_self (by rw[<-r.len];exact hi)],h⟩
  ·rw[List.getElem?_set_ne hj] at e ⊢
   exact r.imS j d' e z
 ow:=fun j t e ho=>by
  by_cases hj:i=j
  ·subst hj
   have hi:i<sd.length:=by
    have:=(List.getElem?_eq_some_iff.mp e).1;simpa using this
   rw[List.getElem?_set_self hi] at e
   cases e
   rw[hd] at ho;cases ho
  ·rw[List.getElem?_set_ne hj] at e ⊢
   exact r.ow j t e ho
 sep:=fun j k t u p hjk e1 o1 e2 o2 e3 e4=>by
  have ne:∀{l:Nat} {fs:S},(sd.set i (some d))[l]?=some (some fs)->fs.own=true->i≠l:=fun {l fs} e o z=>by
   subst z
   have hi:i<sd.length:=by
    have:=(List.getElem?_eq_some_iff.mp e).1;simpa using this
   rw[List.getElem?_set_self hi] at e
   cases e
   rw[hd] at o;cases o
  have n1:=ne e1 o1
  have n2:=ne e2 o2
  rw[List.getElem?_set_ne n1] at e1 e3
  rw[List.getElem?_set_ne n2] at e2 e4
  exact r.sep j k t u p hjk e1 o1 e2 o2 e3 e4
theorem SR.set_im (r:SR K H0 B Hf sd σ H)(i:Nat){d:D}{v:V}(h:Rep K Hf d v):SR K H0 B Hf (sd.set i (some (.im d))) (σ.set i (some v)) H:=r.set_st (d:=.im d) i rfl h
theorem SR.set_own (r:SR K H0 B Hf sd σ H)(i:Nat){p:Addr}{o:HO}{t:S}(hp:H p=none)(ho:t.own=true)(h:S.at K Hf (upd H p o) p t):SR K H0 B Hf (sd.set i (some t)) (σ.set i (some (.ref p))) (upd H p o) where
 sub:=r.sub.trans (Z1 hp _)
 all:=r.all.trans (Z1 hp _)
 ban:=r.ban
 bt:=r.bt
 len:=by rw[List.length_set,List.length_set];exact r.len
 imS:=fun j d' e z=>by
  by_cases hj:i=j
  ·subst hj
   have hi:i<sd.length:=by
    have:=(List.getElem?_eq_some_iff.mp e).1;simpa using this
   rw[List.getElem?_set_self hi] at e
   cases e
   rw[ho] at z;cases z
  ·rw[List.getElem?_set_ne hj] at e ⊢
   exact r.imS j d' e z
 ow:=fun j u e hu=>by
  by_cases hj:i=j
  ·subst hj
   have hi:i<sd.length:=by
    have:=(List.getElem?_eq_some_iff.mp e).1;simpa using this
   rw[List.getElem?_set_self hi] at e
   cases e
   exact⟨p,by rw[List.getElem?_set_self (by rw[<-r.len];exact hi)],r.all.free hp,r.sub.free hp,h⟩
  ·rw[List.getElem?_set_ne hj] at e ⊢
   obtain⟨q,e1,e2,e3,e4⟩:=r.ow j u e hu
   exact⟨q,e1,e2,e3,at_move e4 (Same.refl _) fun o h=>Z1 hp _ _ _ h⟩
 sep:=fun j k u w q hjk e1 o1 e2 o2 e3 e4=>by
  have new:∀{l:Nat},i=l->(σ.set i (some (V.ref p)))[l]?=some (some (.ref q))->q=p:=fun {l} z e=>by
   subst z
   have hi:i<σ.length:=by
    have:=(List.getElem?_eq_some_iff.mp e).1;simpa using this
   rw[List.getElem?_set_self hi] at e
   cases e;rfl
  have old:∀{l:Nat} {u:S},i≠l->(sd.set i (some t))[l]?=some (some u)->u.own=true->(σ.set i (some (V.ref p)))[l]?=some (some (.ref q))->q≠p:=fun {l u} n e ou z=>by
   rw[List.getElem?_set_ne n] at e z
   obtain⟨q',e1,_,_,e4⟩:=r.ow l u e ou
   rw[z] at e1
   cases e1
   obtain⟨o,eo⟩:=at_some e4
   exact Zk eo hp
  by_cases n1:i=j
  ·have n2:i≠k:=fun z=>hjk (n1.symm.trans z)
   exact old n2 e2 o2 e4 (new n1 e3)
  ·by_cases n2:i=k
   ·exact old n1 e1 o1 e3 (new n2 e4)
   ·rw[List.getElem?_set_ne n1] at e1 e3
    rw[List.getElem?_set_ne n2] at e2 e4
    exact r.sep j k u w q hjk e1 o1 e2 o2 e3 e4
theorem SR.change (r:SR K H0 B Hf sd σ H){i:Nat}{p:Addr}{o:HO}{t u:S}(ht:sd[i]?=some (some t))(ot:t.own=true)(hi:σ[i]?=some (some (.ref p)))(ou:u.own=true)(h:S.at K Hf (upd H p o) p u):SR K H0 B Hf (sd.set i (some u)) σ (upd H p o):=by
 obtain⟨p',z1,z2,z3,z4⟩:=r.ow i t ht ot
 rw[hi] at z1
 cases z1
 have hl:i<sd.length:=(List.getElem?_eq_some_iff.mp ht).1
 have back:∀{j:Nat} {w:S},i≠j->(sd.set i (some u))[j]?=some (some w)->sd[j]?=some (some w):=fun {j w} n e=>by rwa[List.getElem?_set_ne n] at e
 refine⟨fun b v q=>?_,fun b v q=>?_,r.ban,r.bt,by rw[List.length_set];exact r.len,fun j d e z=>?_,fun j w e ow=>?_,fun j k w x q hjk e1 o1 e2 o2 e3 e4=>?_⟩
 ·rw[Zj (Zk q z3)];exact r.sub b v q
 ·rw[Zj (Zk q z2)];exact r.all b v q
 ·by_cases n:i=j
  ·subst n
   rw[List.getElem?_set_self hl] at e
   cases e
   rw[ou] at z;cases z
  ·exact r.imS j d (back n e) z
 ·by_cases n:i=j
  ·subst n
   rw[List.getElem?_set_self hl] at e
   cases e
   exact⟨p,hi,z2,z3,h⟩
  ·obtain⟨q,e1,e2,e3,e4⟩:=r.ow j w (back n e) ow
   refine⟨q,e1,e2,e3,at_move e4 (Same.refl _) fun o' h'=>?_⟩
   have:q≠p:=fun z=>by
    subst z
    exact r.sep i j t w q n ht ot (back n e) ow hi e1
   rw[Zj this];exact h'
 ·have get:∀{l:Nat} {w:S},(sd.set i (some u))[l]?=some (some w)->w.own=true->∃w',sd[l]?=some (some w')/\w'.own=true:=fun {l w} e ow=>by
   by_cases n:i=l
   ·subst n;exact⟨t,ht,ot⟩
   ·exact⟨w,back n e,ow⟩
  obtain⟨w',a1,a2⟩:=get e1 o1
  obtain⟨x',b1,b2⟩:=get e2 o2
  exact r.sep j k w' x' q hjk a1 a2 b1 b2 e3 e4
theorem SR.freeze (r:SR K H0 B Hf sd σ H){i:Nat}{ds:List D}(ht:sd[i]?=some (some (.ow ds))):∃Hf',Same Hf Hf'/\SR K H0 B Hf' (sd.set i (some (.im (.lst ds)))) σ H:=by
 obtain⟨p,z1,z2,z3,xs,z4,z5⟩:=r.ow i _ ht rfl
 have hl:i<sd.length:=(List.getElem?_eq_some_iff.mp ht).1
 have back:∀{j:Nat} {w:S},i≠j->(sd.set i (some (S.im (.lst ds))))[j]?=some (some w)->sd[j]?=some (some w):=fun {j w} n e=>by rwa[List.getElem?_set_ne n] at e
 have sm:=Z1 z3 (.lst xs)
 refine⟨upd Hf p (.lst xs),sm,fun b v q=>?_,r.all,fun a h=>?_,r.bt,by rw[List.length_set];exact r.len,fun j d e z=>?_,fun j w e ow=>?_,fun j k w x q hjk e1 o1 e2 o2 e3 e4=>?_⟩
 ·by_cases hb:b=p
  ·subst hb;rw[Zn] at q;rw[z4];exact q
  ·rw[Zj hb] at q;exact r.sub b v q
 ·have:a≠p:=fun z=>(r.bt a h).nn (z▸z2)
  rw[Zj this];exact r.ban a h
 ·by_cases n:i=j
  ·subst n
   rw[List.getElem?_set_self hl] at e
   cases e
   exact⟨_,z1,(rep_lst.mpr ⟨p,xs,rfl,SqL.of Zn,z5.mono sm⟩:Rep K _ (.lst ds) _)⟩
  ·obtain⟨v,e1,e2⟩:=r.imS j d (back n e) z
   exact⟨v,e1,e2.mono sm⟩
 ·by_cases n:i=j
  ·subst n
   rw[List.getElem?_set_self hl] at e
   cases e
   cases ow
  ·obtain⟨q,e1,e2,e3,e4⟩:=r.ow j w (back n e) ow
   refine⟨q,e1,e2,?_,at_move e4 sm fun o' h'=>h'⟩
   have:q≠p:=fun z=>by
    subst z
    exact r.sep i j _ w q n ht rfl (back n e) ow z1 e1
   rw[Zj this];exact e3
 ·have ne:∀{l:Nat} {w:S},(sd.set i (some (S.im (.lst ds))))[l]?=some (some w)->w.own=true->i≠l:=fun {l w} e o z=>by
   subst z
   rw[List.getElem?_set_self hl] at e
   cases e
   cases o
  exact r.sep j k w x q hjk (back (ne e1 o1) e1) o1 (back (ne e2 o2) e2) o2 e3 e4
end
def RepX (K:PySem.W.Frag)(Hf _H:Hp)(x:XV)(c:Value)(dx:Option Addr):Prop :=
 ∃C xs,c=.ref C/\PySem.W.nsIn K mainGlobals x.cls=some (some (.ref C))/\XF Hf x.ns xs dx/\Reps K Hf x.ds xs
def Po (K:PySem.W.Frag)(E:XK){α β:Type}(R:Hp->Hp->α->β->Prop)(Hf H:Hp)(r:M α)(Q:β->Hp->Prop):Prop:=match r with
 |.ok a=>∀b Hf' H',Gr Hf H Hf' H'->R Hf' H' a b->Q b H'
 |.ex x=>∀c dx Hf' H',Gr Hf H Hf' H'->RepX K Hf' H' x c dx->E c dx H'
 |.bad=>False
def rV (K:PySem.W.Frag)(Hf _H:Hp)(d:D)(v:V):Prop:=Rep K Hf d v
def rA (K:PySem.W.Frag)(Hf _H:Hp)(ds:List D)(vs:List V):Prop:=Reps K Hf ds vs
def rQ {α:Type}(_Hf _H:Hp)(a b:α):Prop:=a=b
section
variable {K:PySem.W.Frag} {E:XK} {α β γ δ:Type} {R:Hp->Hp->α->β->Prop} {T:Hp->Hp->γ->δ->Prop} {Hf H Hf1 H1:Hp}
theorem Po.weak {r:M α}{Q:β->Hp->Prop}(g:Gr Hf H Hf1 H1)(h:Po K E R Hf H r Q):Po K E R Hf1 H1 r Q:=by
 cases r with
 |ok a=>exact fun b Hf' H' g' q=>h b Hf' H' (g.trans g') q
 |ex x=>exact fun c dx Hf' H' g' q=>h c dx Hf' H' (g.trans g') q
 |bad=>exact h
theorem Po.bind {r:M α}{k:α->M γ}{Q:δ->Hp->Prop}{Q1:β->Hp->Prop}(h:Po K E T Hf H (r.bind k) Q)(s:∀a b Hf1 H1,r=.ok a->Gr Hf H Hf1 H1->R Hf1 H1 a b->Po K E T Hf1 H1 (k a) Q->Q1 b H1):Po K E R Hf H r Q1:=by
 cases r with
 |ok a=>exact fun b Hf' H' g q=>s a b Hf' H' rfl g q (Po.weak g h)
 |ex x=>exact h
 |bad=>exact h
theorem Po.ret {a:α}{b:β}{Q:β->Hp->Prop}(e:Same Hf H)(h:Po K E R Hf H (.ok a) Q)(q:R Hf H a b):Q b H:=h b Hf H (Gr.refl e) q
end
def PEd (X:Cx)(E:XK)(e:Expr)(f:DSt->M D):Prop :=
 ∃t:TE,PE X e t/\∀(H0:Hp) (B:Addr->Prop) (Hf:Hp) (sd:DSt) (σ:L2.St) (H:Hp) (Q:VK),SR X.K H0 B Hf sd σ H->Po X.K E (rV X.K) Hf H (f sd) Q->t σ H Q
def PAd (X:Cx)(E:XK)(es:List Expr)(f:DSt->M (List D)):Prop :=
 ∃t:TA,PA X es t/\∀(H0:Hp) (B:Addr->Prop) (Hf:Hp) (sd:DSt) (σ:L2.St) (H:Hp) (Q:List V->Hp->Prop),SR X.K H0 B Hf sd σ H->Po X.K E (rA X.K) Hf H (f sd) Q->t σ H Q
def PTd (X:Cx)(E:XK)(e:Expr)(f:DSt->M Bool):Prop :=
 ∃t:TT,PT X e t/\∀(H0:Hp) (B:Addr->Prop) (Hf:Hp) (sd:DSt) (σ:L2.St) (H:Hp) (Q:Bool->Hp->Prop),SR X.K H0 B Hf sd σ H->Po X.K E rQ Hf H (f sd) Q->t σ H Q
def PWd (X:Cx)(E:XK)(e:Expr)(f:DSt->M Bool):Prop :=
 ∃t:TT,PW X e t/\∀(H0:Hp) (B:Addr->Prop) (Hf:Hp) (sd:DSt) (σ:L2.St) (H:Hp) (Q:Bool->Hp->Prop),SR X.K H0 B Hf sd σ H->Po X.K E rQ Hf H (f sd) Q->t σ H Q
def POd (X:Cx)(E:XK)(e:Option Expr)(f:DSt->M (Option Int)):Prop :=
 ∃t:TO,PO X e t/\∀(H0:Hp) (B:Addr->Prop) (Hf:Hp) (sd:DSt) (σ:L2.St) (H:Hp) (Q:Option Int->Hp->Prop),SR X.K H0 B Hf sd σ H->Po X.K E rQ Hf H (f sd) Q->t σ H Q
inductive O where
 |nx (sd:DSt)|rt (s:S)|bk (sd:DSt)|ct (sd:DSt)
structure Fin' (H0:Hp) (B:Addr->Prop) (Hf H:Hp):Prop where
 sub:Same Hf H
 all:Same H0 H
 ban:∀a,B a->Hf a=none
def RS (K:PySem.W.Frag)(H0 Hf H:Hp):S->V->Prop
 |.im d,v=>Rep K Hf d v
 |.xc x,v=>RepE K Hf x v
 |t,v=>∃p,v=.ref p/\H0 p=none/\Hf p=none/\S.at K Hf H p t
def PoS (K:PySem.W.Frag)(E:XK)(H0:Hp)(B:Addr->Prop)(Hf:Hp)(r:M O)(D:Ends):Prop:=match r with
 |.ok (.nx sd')=>∀σ' Hf' H',Same Hf Hf'->SR K H0 B Hf' sd' σ' H'->D.nx σ' H'
 |.ok (.bk sd')=>∀σ' Hf' H',Same Hf Hf'->SR K H0 B Hf' sd' σ' H'->D.bk σ' H'
 |.ok (.ct sd')=>∀σ' Hf' H',Same Hf Hf'->SR K H0 B Hf' sd' σ' H'->D.ct σ' H'
 |.ok (.rt s)=>∀v Hf' H',Same Hf Hf'->Fin' H0 B Hf' H'->RS K H0 Hf' H' s v->D.rt v H'
 |.ex x=>∀c dx Hf' H',Same Hf Hf'->Fin' H0 B Hf' H'->RepX K Hf' H' x c dx->E c dx H'
 |.bad=>False
theorem SR.fin {K:PySem.W.Frag}{H0 Hf H:Hp}{B:Addr->Prop}{sd:DSt}{σ:L2.St}(r:SR K H0 B Hf sd σ H):Fin' H0 B Hf H:=⟨r.sub,r.all,r.ban⟩
def PSd (X:Cx)(E:XK)(st:Stmt)(f:DSt->M O):Prop :=
 ∃t:TS,PS X st t/\∀(H0:Hp) (B:Addr->Prop) (Hf:Hp) (sd:DSt) (σ:L2.St) (H:Hp) (D:Ends),SR X.K H0 B Hf sd σ H->PoS X.K E H0 B Hf (f sd) D->t D σ H
def PSsd (X:Cx)(E:XK)(st:List Stmt)(f:DSt->M O):Prop :=
 ∃t:TS,PSs X st t/\∀(H0:Hp) (B:Addr->Prop) (Hf:Hp) (sd:DSt) (σ:L2.St) (H:Hp) (D:Ends),SR X.K H0 B Hf sd σ H->PoS X.K E H0 B Hf (f sd) D->t D σ H
theorem PoS.weak {K:PySem.W.Frag}{E:XK}{H0 Hf Hf1:Hp}{B:Addr->Prop}{r:M O}{D:Ends}(g:Same Hf Hf1)(h:PoS K E H0 B Hf r D):PoS K E H0 B Hf1 r D:=by
 cases r with
 |ok o =>
  cases o with
  |nx sd=>exact fun σ' Hf' H' e q=>h σ' Hf' H' (g.trans e) q
  |bk sd=>exact fun σ' Hf' H' e q=>h σ' Hf' H' (g.trans e) q
  |ct sd=>exact fun σ' Hf' H' e q=>h σ' Hf' H' (g.trans e) q
  |rt s=>exact fun v Hf' H' e q=>h v Hf' H' (g.trans e) q
 |ex x=>exact fun c dx Hf' H' e q=>h c dx Hf' H' (g.trans e) q
 |bad=>exact h
theorem PoS.bind {K:PySem.W.Frag}{E:XK}{H0 Hf H:Hp}{B:Addr->Prop}{sd:DSt}{σ:L2.St}{α β:Type}{R:Hp->Hp->α->β->Prop}{r:M α}{k:α->M O}{D:Ends}{Q1:β->Hp->Prop}(sr:SR K H0 B Hf sd σ H)(h:PoS K E H0 B Hf (r.bind k) D)(s:∀a b Hf1 H1,r=.ok a->Gr Hf H Hf1 H1->SR K H0 B Hf1 sd σ H1->R Hf1 H1 a b->PoS K E H0 B Hf1 (k a) D->Q1 b H1):Po K E R Hf H r Q1:=by
 cases r with
 |ok a=>exact fun b Hf' H' g q=>s a b Hf' H' rfl g (sr.gr g) q (PoS.weak g.fz h)
 |ex x=>exact fun c dx Hf' H' g q=>h c dx Hf' H' g.fz (sr.gr g).fin q
 |bad=>exact h
section
variable {X:Cx} {E:XK} {pos:Pos} {a b:Expr}
def Zc (i:Nat)(sd:DSt):M D:=match sd[i]? with
 |some (some (.im d))=>.ok d
 |_=>.bad
theorem Za (i:Nat){x:Str}(hN:X.N[i]?=some x:=by rfl)(hv:Vis X.env.scope x:=by first|exact Or.inl rfl|exact Or.inr (Or.inl rfl)|exact Or.inr (Or.inr rfl)) (hd:(x==("__debug__" : Str))=false:=by decide)
  (hcd:(x==("__classdict__" : Str))=false:=by decide):PEd X E (.Name x pos) (Zc i):=by
 refine⟨_,Z8 hN hv hd hcd,fun H0 B Hf sd σ H Q sr h=>?_⟩
 unfold Zc at h
 split at h
 ·rename_i d e
  obtain⟨v,e1,e2⟩:=sr.im i d e
  exact⟨v,e1,Po.ret sr.sub h e2⟩
 ·exact h.elim
def eC (d:D)(_:DSt):M D:=.ok d
theorem Ze {i:Int}{j}:PEd X E (.Constant (.int i) j pos) (eC (.int i)):=⟨_,pe_int,fun _ _ _ _ _ _ _ sr h=>Po.ret sr.sub h (rep_int.mpr rfl)⟩
theorem pd_bl {i:Bool}{j}:PEd X E (.Constant (.bool i) j pos) (eC (.bl i)):=⟨_,pe_bl,fun _ _ _ _ _ _ _ sr h=>Po.ret sr.sub h (rep_bl.mpr rfl)⟩
theorem pd_non {j}:PEd X E (.Constant .none j pos) (eC .non):=⟨_,pe_non,fun _ _ _ _ _ _ _ sr h=>Po.ret sr.sub h (rep_non.mpr rfl)⟩
theorem Zr {x}{j}:PEd X E (.Constant (.str x) j pos) (eC (.str x)):=⟨_,pe_str,fun _ _ _ _ _ _ _ sr h=>Po.ret sr.sub h (rep_str.mpr rfl)⟩
def OpD (X:Cx)(E:XK)(f:Value->Value->Sem Value)(g:D->D->M D):Prop :=
 ∃r:R2,OpR X f r/\∀(Hf H:Hp) (x y:V) (dx dy:D) (Q:VK),Same Hf H->Rep X.K Hf dx x->Rep X.K Hf dy y->Po X.K E (rV X.K) Hf H (g dx dy) Q->r x y H Q
def eOp (g:D->D->M D)(fa fb:DSt->M D)(sd:DSt):M D:=(fa sd).bind fun x=>(fb sd).bind fun y=>g x y
theorem two {fa fb:DSt->M D}{g:D->D->M D}{ta tb:TE}{r:R2}{H0:Hp}{B:Addr->Prop}{Hf:Hp}{sd:DSt}{σ:L2.St}{H:Hp}{Q:VK}(ha:∀(H0:Hp) (B:Addr->Prop) (Hf:Hp) (sd:DSt) (σ:L2.St) (H:Hp) (Q:VK),SR X.K H0 B Hf sd σ H->Po X.K E (rV X.K) Hf H (fa sd) Q->ta σ H Q)(hb:∀(H0:Hp) (B:Addr->Prop) (Hf:Hp) (sd:DSt) (σ:L2.St) (H:Hp) (Q:VK),SR X.K H0 B Hf sd σ H->Po X.K E (rV X.K) Hf H (fb sd) Q->tb σ H Q)(hr:∀(Hf H:Hp) (x y:V) (dx dy:D) (Q:VK),Same Hf H->Rep X.K Hf dx x->Rep X.K Hf dy y->Po X.K E (rV X.K) Hf H (g dx dy) Q->r x y H Q)(sr:SR X.K H0 B Hf sd σ H)(h:Po X.K E (rV X.K) Hf H (eOp g fa fb sd) Q):tOp r ta tb σ H Q:=by
 refine ha H0 B Hf sd σ H _ sr (Po.bind h fun dx x Hf1 H1 _ g1 rx h1=>?_)
 have sr1:=sr.gr g1
 refine hb H0 B Hf1 sd σ H1 _ sr1 (Po.bind h1 fun dy y Hf2 H2 _ g2 ry h2=>?_)
 exact hr Hf2 H2 x y dx dy Q g2.sub (Rep.mono g2.fz rx) ry h2
theorem Zx {op:Operator}{g:D->D->M D}{fa fb:DSt->M D}(ho:OpD X E (binaryOp op) g)(ha:PEd X E a fa)(hb:PEd X E b fb):PEd X E (.BinOp a op b pos) (eOp g fa fb):=by
 obtain⟨r,hr,qr⟩:=ho
 obtain⟨ta,pa,qa⟩:=ha
 obtain⟨tb,pb,qb⟩:=hb
 exact⟨_,pe_op hr pa pb,fun H0 B Hf sd σ H Q sr h=>two qa qb qr sr h⟩
theorem Yl {op:CmpOp}{g:D->D->M D}{fa fb:DSt->M D}(ho:OpD X E (compareOp op) g)(ha:PEd X E a fa)(hb:PEd X E b fb)(hm:behindInMarks op b=false):PEd X E (.Compare a [op] [b] pos) (eOp g fa fb):=by
 obtain⟨r,hr,qr⟩:=ho
 obtain⟨ta,pa,qa⟩:=ha
 obtain⟨tb,pb,qb⟩:=hb
 exact⟨_,pe_cmpR hr pa pb hm,fun H0 B Hf sd σ H Q sr h=>two qa qb qr sr h⟩
def gI (c:Int->Int->Bool)(g:Int->Int->D):D->D->M D
 |.int i,.int j=>if c i j then .ok (g i j) else .bad
 |_,_=>.bad
def gI0 (g:Int->Int->D):D->D->M D
 |.int i,.int j=>.ok (g i j)
 |_,_=>.bad
theorem od_I0 {f:Value->Value->Sem Value}{gv:Int->Int->V}{gd:Int->Int->D}(h:OpR X f (rI0 gv))(hg:∀i j (H:Hp),Rep X.K H (gd i j) (gv i j)):OpD X E f (gI0 gd):=by
 refine⟨_,h,fun Hf H x y dx dy Q e rx ry q=>?_⟩
 unfold gI0 at q
 split at q
 ·rename_i i j
  exact⟨i,j,rep_int.mp rx,rep_int.mp ry,Po.ret e q (hg i j Hf)⟩
 ·exact q.elim
theorem od_I {f:Value->Value->Sem Value}{C:Int->Int->Prop}{c:Int->Int->Bool}{gv:Int->Int->V}{gd:Int->Int->D}(h:OpR X f (rI C gv))(hc:∀i j,c i j=true->C i j)(hg:∀i j (H:Hp),Rep X.K H (gd i j) (gv i j)):OpD X E f (gI c gd):=by
 refine⟨_,h,fun Hf H x y dx dy Q e rx ry q=>?_⟩
 unfold gI at q
 split at q
 ·rename_i i j
  split at q
  ·rename_i hcc
   exact⟨i,j,rep_int.mp rx,rep_int.mp ry,hc i j hcc,Po.ret e q (hg i j Hf)⟩
  ·exact q.elim
 ·exact q.elim
def gSub:D->D->M D:=gI0 fun i j=>.int (i - j)
def gLt:D->D->M D:=gI0 fun i j=>.bl (decide (i<j))
def gLe:D->D->M D:=gI0 fun i j=>.bl (decide (i<=j))
def gGt:D->D->M D:=gI0 fun i j=>.bl (decide (j<i))
def gGe:D->D->M D:=gI0 fun i j=>.bl (decide (j<=i))
theorem od_sub:OpD X E (binaryOp .Sub) gSub:=od_I0 op_sub fun _ _ _=>rep_int.mpr rfl
theorem od_lt:OpD X E (compareOp .Lt) gLt:=od_I0 op_lt fun _ _ _=>rep_bl.mpr rfl
theorem od_le:OpD X E (compareOp .LtE) gLe:=od_I0 op_le fun _ _ _=>rep_bl.mpr rfl
theorem od_gt:OpD X E (compareOp .Gt) gGt:=od_I0 op_gt fun _ _ _=>rep_bl.mpr rfl
theorem od_ge:OpD X E (compareOp .GtE) gGe:=od_I0 op_ge fun _ _ _=>rep_bl.mpr rfl
end
section
variable {X:Cx} {E:XK} {pos:Pos} {a b:Expr}
theorem bits_of {i:Int}(h:i.natAbs<2 ^ 4000):Builtin.Int.intBits i<=2 ^ 20:=by
 unfold Builtin.Int.intBits
 split
 ·exact Nat.zero_le _
 ·rename_i hz
  have hn:i.natAbs≠0:=fun z=>hz (by rw[Int.natAbs_eq_zero.mp z];rfl)
  have:i.natAbs.log2<4000:=(Nat.log2_lt hn).mpr h
  have e:(2:Nat) ^ 20=1048576:=rfl
  lia
def CBig (i j:Int):Prop:=i.natAbs<2 ^ 4000/\j.natAbs<2 ^ 4000
def CNz (_i j:Int):Prop:=j≠0/\j.natAbs<2 ^ 4000
theorem log_of {j:Int}(h:j.natAbs<2 ^ 4000):j.natAbs.log2<9000:=by
 by_cases hn:j.natAbs=0
 ·rw[hn];decide
 ·have:j.natAbs.log2<4000:=(Nat.log2_lt hn).mpr h
  lia
theorem op_mulB:OpR X (binaryOp .Mult) (rI CBig fun i j=>.int (i*j)):=opI fun _ _ _ _ _ _ _ hc q=>mul_int q (IntMulOk.of_bits (bits_of hc.1) (bits_of hc.2))
theorem op_fdivB:OpR X (binaryOp .FloorDiv) (rI CNz fun i j=>.int (i.fdiv j)):=opI fun _ _ _ _ _ _ _ hc q=>floordiv_int hc.1 q (.inl (PyProof.noPylong_of_log2 (log_of hc.2)))
def sm (i:Int):Bool:=decide (i.natAbs<2 ^ 4000)
theorem sm_iff {i:Int}:sm i=true↔i.natAbs<2 ^ 4000:=decide_eq_true_iff
def gMul:D->D->M D:=gI (fun i j=>sm i&&sm j) fun i j=>.int (i*j)
def gFdiv:D->D->M D:=gI (fun _ j=>j != 0&&sm j) fun i j=>.int (i.fdiv j)
def Yd:D->D->M D:=gI (fun _ j=>j != 0) fun i j=>.int (i.fmod j)
def gPow:D->D->M D:=gI (fun i j=>decide (0<=j/\j<=1000/\i.natAbs<1000)) fun i j=>.int (i ^ j.toNat)
theorem od_mul:OpD X E (binaryOp .Mult) gMul:=od_I op_mulB (fun i j h=>by
 rw[Bool.and_eq_true] at h
 exact⟨sm_iff.mp h.1,sm_iff.mp h.2⟩) fun _ _ _=>rep_int.mpr rfl
theorem od_fdiv:OpD X E (binaryOp .FloorDiv) gFdiv:=od_I op_fdivB (fun i j h=>by
 rw[Bool.and_eq_true] at h
 exact⟨by simpa using h.1,sm_iff.mp h.2⟩) fun _ _ _=>rep_int.mpr rfl
theorem Yx:OpD X E (binaryOp .Mod) Yd:=od_I op_modN (fun i j h=>by simpa using h) fun _ _ _=>rep_int.mpr rfl
theorem od_pow:OpD X E (binaryOp .Pow) gPow:=od_I op_pow (fun i j h=>by
 have h:=of_decide_eq_true h
 refine⟨h.1,by lia,?_⟩
 have e:(2:Nat) ^ 64=18446744073709551616:=rfl
 lia) fun _ _ _=>rep_int.mpr rfl
theorem atI_rep {K:PySem.W.Frag}{H:Hp}{ds:List D}{xs:List V}{i:Int}{d:D}(r:Reps K H ds xs)(e:atI ds i=some d):∃x,atI xs i=some x/\Rep K H d x:=by
 unfold atI at e ⊢
 rw[<-r.length]
 cases q:ixN ds.length i with
 |none=>rw[q] at e;cases e
 |some j =>
  rw[q] at e
  exact r.get e
def gIx:D->D->M D
 |.lst ds,.int i=>match atI ds i with
  |some d=>.ok d
  |none=>.bad
 |.tup ds,.int i=>match atI ds i with
  |some d=>.ok d
  |none=>.bad
 |.str z,.int i=>if z.length<=sizeLine then(match atI z.cps.toList i with
  |some c=>.ok (.str ⟨#[c]⟩)
  |none=>.bad) else .bad
 |_,_=>.bad
theorem Zv {fa fb:DSt->M D}(ha:PEd X E a fa)(hb:PEd X E b fb)(hs:PlainIx b):PEd X E (.Subscript a b pos) (eOp gIx fa fb):=by
 obtain⟨ta,pa,qa⟩:=ha
 obtain⟨tb,pb,qb⟩:=hb
 refine⟨_,pe_ix ix_seq pa pb hs,fun H0 B Hf sd σ H Q sr h=>two qa qb (fun Hf H x y dx dy Q e rx ry q=>?_) sr h⟩
 unfold gIx at q
 split at q
 ·rename_i ds i
  split at q
  ·rename_i d ei
   obtain⟨p,xs,rfl,hp,hr⟩:=rep_lst.mp rx
   obtain⟨v,e1,e2⟩:=atI_rep hr ei
   exact .inl ⟨p,xs,i,v,rfl,rep_int.mp ry,e.seq hp,e1,Po.ret e q e2⟩
  ·exact q.elim
 ·rename_i ds i
  split at q
  ·rename_i d ei
   obtain⟨p,xs,rfl,hp,hr⟩:=Z2 rx
   obtain⟨v,e1,e2⟩:=atI_rep hr ei
   exact .inr (.inl ⟨p,xs,i,v,rfl,rep_int.mp ry,Same.seqT e hp,e1,Po.ret e q e2⟩)
  ·exact q.elim
 ·rename_i z i
  split at q
  ·rename_i hz
   split at q
   ·rename_i c ei
    exact .inr (.inr ⟨z,i,c,rep_str.mp rx,rep_int.mp ry,hz,ei,Po.ret e q (rep_str.mpr rfl)⟩)
   ·exact q.elim
  ·exact q.elim
 ·exact q.elim
def Zh (_:DSt):M (List D):=.ok []
def Zd (fa:DSt->M D)(fr:DSt->M (List D))(sd:DSt):M (List D):=(fa sd).bind fun d=>(fr sd).bind fun ds=>.ok (d::ds)
theorem Zf:PAd X E [] Zh:=⟨_,Y7,fun _ _ _ _ _ _ _ sr h=>Po.ret sr.sub h Reps.nil⟩
theorem Zb {es:List Expr}{fa:DSt->M D}{fr:DSt->M (List D)}(ha:PEd X E a fa)(hr:PAd X E es fr)(hs:starEach (a::es) X.env=(false,eval a X.env)::starEach es X.env:=by rfl):PAd X E (a::es) (Zd fa fr):=by
 obtain⟨ta,pa,qa⟩:=ha
 obtain⟨tr,pr,qr⟩:=hr
 refine⟨_,Qp pa pr hs,fun H0 B Hf sd σ H Q sr h=>?_⟩
 refine qa H0 B Hf sd σ H _ sr (Po.bind h fun d v Hf1 H1 _ g1 rv h1=>?_)
 refine qr H0 B Hf1 sd σ H1 _ (sr.gr g1) (Po.bind h1 fun ds vs Hf2 H2 _ g2 rs h2=>?_)
 exact Po.ret g2.sub h2 (Reps.cons (Rep.mono g2.fz rv) rs)
def few (ds:List D):Bool:=decide (ds.length<=1000000)
theorem few_line {K:PySem.W.Frag}{H:Hp}{ds:List D}{xs:List V}(h:few ds=true)(r:Reps K H ds xs):xs.length<=sizeLine:=by
 have:=of_decide_eq_true h
 have e:=sizeLine_eq
 rw[<-r.length,e]
 lia
def eTup (fs:DSt->M (List D))(sd:DSt):M D:=(fs sd).bind fun ds=>if few ds then .ok (.tup ds) else .bad
def eLst (fs:DSt->M (List D))(sd:DSt):M D:=(fs sd).bind fun ds=>if few ds then .ok (.lst ds) else .bad
theorem Gr.tup {K:PySem.W.Frag}{Hf H:Hp}{p:Addr}{ds:List D}{xs:List V}(e:Same Hf H)(hp:H p=none)(r:Reps K Hf ds xs):Rep K (upd Hf p (.tup xs)) (.tup ds) (.ref p) :=
 rep_tup.mpr ⟨p,xs,rfl,Zn,r.mono (Z1 (e.free hp) _)⟩
theorem Gr.lst {K:PySem.W.Frag}{Hf H:Hp}{p:Addr}{ds:List D}{xs:List V}(e:Same Hf H)(hp:H p=none)(r:Reps K Hf ds xs):Rep K (upd Hf p (.lst xs)) (.lst ds) (.ref p) :=
 rep_lst.mpr ⟨p,xs,rfl,SqL.of Zn,r.mono (Z1 (e.free hp) _)⟩
theorem Xn {es:List Expr}{fs:DSt->M (List D)}{x1}(h:PAd X E es fs):PEd X E (.Tuple es x1 pos) (eTup fs):=by
 obtain⟨t,p,q⟩:=h
 refine⟨_,pe_tup p,fun H0 B Hf sd σ H Q sr h=>?_⟩
 refine q H0 B Hf sd σ H _ sr (Po.bind h fun ds vs Hf1 H1 _ g1 rs h1=>?_)
 split at h1
 ·rename_i hf
  exact⟨few_line hf rs,fun p hp=>h1 _ _ _ (Gr.alloc g1.sub hp _) (Gr.tup g1.sub hp rs)⟩
 ·exact h1.elim
theorem pd_lst {es:List Expr}{fs:DSt->M (List D)}(h:PAd X E es fs):PEd X E (.List es pos) (eLst fs):=by
 obtain⟨t,p,q⟩:=h
 refine⟨_,pe_lst p,fun H0 B Hf sd σ H Q sr h=>?_⟩
 refine q H0 B Hf sd σ H _ sr (Po.bind h fun ds vs Hf1 H1 _ g1 rs h1=>?_)
 split at h1
 ·rename_i hf
  exact⟨few_line hf rs,fun p hp=>h1 _ _ _ (Gr.alloc g1.sub hp _) (Gr.lst g1.sub hp rs)⟩
 ·exact h1.elim
def CallD (X:Cx)(E:XK)(f:Value)(g:List D->M D):Prop :=
 ∃r,CallR X f r/\∀(Hf H:Hp) (xs:List V) (ds:List D) (Q:VK),Same Hf H->Reps X.K Hf ds xs->Po X.K E (rV X.K) Hf H (g ds) Q->r xs H Q
def eCB (g:List D->M D)(fs:DSt->M (List D))(sd:DSt):M D:=(fs sd).bind g
theorem Z5 {x:Str}{id:String}{p:Pos}{g:List D->M D}{e:Expr}{es:List Expr}{fs:DSt->M (List D)}(hc:CallD X E (.builtin id) g)(hg:Gl X x)(hm:X.mg x=none)(hv:bootBuiltins x=some (.builtin id))(ha:PAd X E (e::es) fs)
  (hn:x ≠ "__name__" := by decide) (hdb:(x==("__debug__" : Str))=false:=by decide)
  (he:starEach (e::es) X.env=(false,eval e X.env)::starEach es X.env:=by rfl) (hpl:(backTo pos (starEach es X.env)).any (·.1)=false:=by rfl):PEd X E (.Call (.Name x p) (e::es) [] pos) (eCB g fs):=by
 obtain⟨r,hr,qr⟩:=hc
 obtain⟨t,pt,qt⟩:=ha
 refine⟨_,pe_callB hr hg hm hv pt hn hdb he hpl,fun H0 B Hf sd σ H Q sr h=>?_⟩
 exact qt H0 B Hf sd σ H _ sr (Po.bind h fun ds vs Hf1 H1 _ g1 rs h1=>qr Hf1 H1 vs ds Q g1.sub rs h1)
theorem Yo {x:Str}{T:String}{p:Pos}{g:List D->M D}{e:Expr}{es:List Expr}{fs:DSt->M (List D)}(hc:CallD X E (.type T) g)(hg:Gl X x)(hm:X.mg x=none)(hv:bootBuiltins x=some (.type T))(ha:PAd X E (e::es) fs)
  (hn:x ≠ "__name__" := by decide) (hdb:(x==("__debug__" : Str))=false:=by decide)
  (he:starEach (e::es) X.env=(false,eval e X.env)::starEach es X.env:=by rfl) (hpl:(backTo pos (starEach es X.env)).any (·.1)=false:=by rfl):PEd X E (.Call (.Name x p) (e::es) [] pos) (eCB g fs):=by
 obtain⟨r,hr,qr⟩:=hc
 obtain⟨t,pt,qt⟩:=ha
 refine⟨_,pe_callTy hr hg hm hv pt hn hdb he hpl,fun H0 B Hf sd σ H Q sr h=>?_⟩
 exact qt H0 B Hf sd σ H _ sr (Po.bind h fun ds vs Hf1 H1 _ g1 rs h1=>qr Hf1 H1 vs ds Q g1.sub rs h1)
theorem reps1 {K:PySem.W.Frag}{H:Hp}{d:D}{xs:List V}(r:Reps K H [d] xs):∃x,xs=[x]/\Rep K H d x:=by
 obtain⟨x,t,rfl,h,r2⟩:=reps_cons.mp r
 rw[reps_nil.mp r2];exact⟨x,rfl,h⟩
theorem reps2 {K:PySem.W.Frag}{H:Hp}{d e:D}{xs:List V}(r:Reps K H [d,e] xs):∃x y,xs=[x,y]/\Rep K H d x/\Rep K H e y:=by
 obtain⟨x,t,rfl,h,r2⟩:=reps_cons.mp r
 obtain⟨y,rfl,h2⟩:=reps1 r2
 exact⟨x,y,rfl,h,h2⟩
def bAbs:List D->M D
 |[.int i]=>.ok (.int (if i<0 then -i else i))
 |_=>.bad
theorem cd_abs:CallD X E (.builtin "abs") bAbs:=by
 refine⟨_,call_abs,fun Hf H xs ds Q e r q=>?_⟩
 unfold bAbs at q
 split at q
 ·obtain⟨x,rfl,h⟩:=reps1 r
  rw[rep_int.mp h]
  exact⟨_,rfl,Po.ret e q (rep_int.mpr rfl)⟩
 ·exact q.elim
def bInt:List D->M D
 |[.int i]=>.ok (.int i)
 |[.bl b]=>.ok (.int (if b then 1 else 0))
 |_=>.bad
theorem cd_int:CallD X E (.type "int") bInt:=by
 refine⟨_,call_int1,fun Hf H xs ds Q e r q=>?_⟩
 unfold bInt at q
 split at q
 ·obtain⟨x,rfl,h⟩:=reps1 r
  rw[rep_int.mp h]
  exact .inl ⟨_,rfl,Po.ret e q (rep_int.mpr rfl)⟩
 ·obtain⟨x,rfl,h⟩:=reps1 r
  rw[rep_bl.mp h]
  exact .inr ⟨_,rfl,Po.ret e q (rep_int.mpr rfl)⟩
 ·exact q.elim
def Ys:List D->M D
 |[.lst ds]=>.ok (.int ds.length)
 |[.tup ds]=>.ok (.int ds.length)
 |[.str z]=>if z.length<=sizeLine then .ok (.int z.length) else .bad
 |_=>.bad
theorem cd_len:CallD X E (.builtin "len") Ys:=by
 refine⟨_,call_len_seq.or call_len_str,fun Hf H xs ds Q e r q=>?_⟩
 unfold Ys at q
 split at q
 ·obtain⟨x,rfl,h⟩:=reps1 r
  obtain⟨p,ys,rfl,hp,hr⟩:=rep_lst.mp h
  refine .inl ⟨p,ys,rfl,.inl (e.seq hp),?_⟩
  rw[<-hr.length]
  exact Po.ret e q (rep_int.mpr rfl)
 ·obtain⟨x,rfl,h⟩:=reps1 r
  obtain⟨p,ys,rfl,hp,hr⟩:=Z2 h
  refine .inl ⟨p,ys,rfl,.inr (Same.seqT e hp),?_⟩
  rw[<-hr.length]
  exact Po.ret e q (rep_int.mpr rfl)
 ·split at q
  ·rename_i hz
   obtain⟨x,rfl,h⟩:=reps1 r
   rw[rep_str.mp h]
   exact .inr ⟨_,rfl,hz,Po.ret e q (rep_int.mpr rfl)⟩
  ·exact q.elim
 ·exact q.elim
def bTuple:List D->M D
 |[.lst ds]=>.ok (.tup ds)
 |[.tup ds]=>.ok (.tup ds)
 |_=>.bad
theorem cd_tuple:CallD X E (.type "tuple") bTuple:=by
 refine⟨_,call_tuple_of,fun Hf H xs ds Q e r q=>?_⟩
 unfold bTuple at q
 split at q
 ·obtain⟨x,rfl,h⟩:=reps1 r
  obtain⟨p,ys,rfl,hp,hr⟩:=rep_lst.mp h
  exact⟨p,ys,rfl,.inl ⟨e.seq hp,fun l hl=>q _ _ _ (Gr.alloc e hl _) (Gr.tup e hl hr)⟩⟩
 ·obtain⟨x,rfl,h⟩:=reps1 r
  obtain⟨p,ys,rfl,hp,hr⟩:=Z2 h
  exact⟨p,ys,rfl,.inr ⟨Same.seqT e hp,Po.ret e q (h)⟩⟩
 ·exact q.elim
def asB:D->M Bool
 |.bl b=>.ok b
 |_=>.bad
def tB (f:DSt->M D)(sd:DSt):M Bool:=(f sd).bind asB
def tN (f:DSt->M Bool)(sd:DSt):M Bool:=(f sd).bind fun b=>.ok (!b)
def tA (f g:DSt->M Bool)(sd:DSt):M Bool:=(f sd).bind fun b=>if b then g sd else .ok false
def tO (f g:DSt->M Bool)(sd:DSt):M Bool:=(f sd).bind fun b=>if b then .ok true else g sd
theorem Yf {e:Expr}{f:DSt->M D}(h:PEd X E e f)(he:∀whole,isTrue e X.env whole=(do let v <-whole;standAt e.pos;holding [v] (truthy v)):=by intro _;rfl):PTd X E e (tB f):=by
 obtain⟨t,p,q⟩:=h
 refine⟨_,pt_val p he,fun H0 B Hf sd σ H Q sr h=>?_⟩
 refine q H0 B Hf sd σ H _ sr (Po.bind h fun d v Hf1 H1 _ g1 rv h1=>?_)
 unfold asB at h1
 split at h1
 ·exact⟨_,rep_bl.mp rv,Po.ret (R:=rQ) g1.sub h1 rfl⟩
 ·exact h1.elim
theorem Zu {op:CmpOp}{g:D->D->M D}{fa fb:DSt->M D}(ho:OpD X E (compareOp op) g)(ha:PEd X E a fa)(hb:PEd X E b fb)(hm:behindInMarks op b=false):PTd X E (.Compare a [op] [b] pos) (tB (eOp g fa fb)):=by
 obtain⟨r,hr,qr⟩:=ho
 obtain⟨ta,pa,qa⟩:=ha
 obtain⟨tb,pb,qb⟩:=hb
 refine⟨_,pt_cmpR hr pa pb hm,fun H0 B Hf sd σ H Q sr h=>?_⟩
 refine two qa qb qr sr (Po.bind h fun d v Hf1 H1 _ g1 rv h1=>?_)
 unfold asB at h1
 split at h1
 ·exact⟨_,rep_bl.mp rv,Po.ret (R:=rQ) g1.sub h1 rfl⟩
 ·exact h1.elim
theorem Yv {f:DSt->M Bool}(h:PTd X E a f):PTd X E (.UnaryOp .Not a pos) (tN f):=by
 obtain⟨t,p,q⟩:=h
 refine⟨_,pt_not p,fun H0 B Hf sd σ H Q sr h=>?_⟩
 refine q H0 B Hf sd σ H _ sr (Po.bind h fun b v Hf1 H1 _ g1 rv h1=>?_)
 have e:b=v:=rv
 subst e
 exact Po.ret (R:=rQ) g1.sub h1 rfl
theorem PWd.pt {f:DSt->M Bool}{e:Expr}(h:PWd X E e f):PTd X E e f:=by
 obtain⟨t,p,q⟩:=h
 exact⟨t,p.pt,q⟩
theorem pwd_and1 {f:DSt->M Bool}(h:PTd X E a f):PWd X E (.BoolOp .And [a] pos) f:=by
 obtain⟨t,p,q⟩:=h
 exact⟨t,pw_and1 p,q⟩
theorem Y8 {f:DSt->M Bool}(h:PTd X E a f):PWd X E (.BoolOp .Or [a] pos) f:=by
 obtain⟨t,p,q⟩:=h
 exact⟨t,pw_or1 p,q⟩
theorem pwd_and {rest:List Expr}{f g:DSt->M Bool}(h:PTd X E a f)(h2:PWd X E (.BoolOp .And (b::rest) pos) g):PWd X E (.BoolOp .And (a::b::rest) pos) (tA f g):=by
 obtain⟨t,p,q⟩:=h
 obtain⟨t2,p2,q2⟩:=h2
 refine⟨_,pw_and p p2,fun H0 B Hf sd σ H Q sr h=>?_⟩
 refine q H0 B Hf sd σ H _ sr (Po.bind h fun b v Hf1 H1 _ g1 rv h1=>?_)
 have e:b=v:=rv
 subst e
 cases b with
 |true=>rw[if_pos rfl] at h1 ⊢;exact q2 H0 B Hf1 sd σ H1 Q (sr.gr g1) h1
 |false=>rw[if_neg Bool.false_ne_true] at h1 ⊢;exact Po.ret (R:=rQ) g1.sub h1 rfl
theorem Yy {rest:List Expr}{f g:DSt->M Bool}(h:PTd X E a f)(h2:PWd X E (.BoolOp .Or (b::rest) pos) g):PWd X E (.BoolOp .Or (a::b::rest) pos) (tO f g):=by
 obtain⟨t,p,q⟩:=h
 obtain⟨t2,p2,q2⟩:=h2
 refine⟨_,pw_or p p2,fun H0 B Hf sd σ H Q sr h=>?_⟩
 refine q H0 B Hf sd σ H _ sr (Po.bind h fun b v Hf1 H1 _ g1 rv h1=>?_)
 have e:b=v:=rv
 subst e
 cases b with
 |true=>rw[if_pos rfl] at h1 ⊢;exact Po.ret (R:=rQ) g1.sub h1 rfl
 |false=>rw[if_neg Bool.false_ne_true] at h1 ⊢;exact q2 H0 B Hf1 sd σ H1 Q (sr.gr g1) h1
def eAnd (f g:DSt->M D)(sd:DSt):M D:=(f sd).bind fun d=>(asB d).bind fun b=>if b then g sd else .ok (.bl false)
def eOr (f g:DSt->M D)(sd:DSt):M D:=(f sd).bind fun d=>(asB d).bind fun b=>if b then .ok (.bl true) else g sd
def eNot (f:DSt->M D)(sd:DSt):M D:=(f sd).bind fun d=>(asB d).bind fun b=>.ok (.bl (!b))
def eIf (c:DSt->M Bool)(f g:DSt->M D)(sd:DSt):M D:=(c sd).bind fun b=>if b then f sd else g sd
theorem pd_one {op}{f:DSt->M D}(h:PEd X E a f):PEd X E (.BoolOp op [a] pos) f:=by
 obtain⟨t,p,q⟩:=h
 exact⟨t,pe_one p,q⟩
theorem asB_ok {d:D}{b:Bool}(h:asB d=.ok b):d=.bl b:=by
 unfold asB at h
 split at h
 ·cases h;rfl
 ·cases h
theorem asB_noex {d:D}{x:XV}(h:asB d=.ex x):False:=by
 unfold asB at h
 split at h<;>cases h
theorem Po.asB {K:PySem.W.Frag}{α β:Type}{R:Hp->Hp->α->β->Prop}{Hf H:Hp}{d:D}{k:Bool->M α}{Q:β->Hp->Prop}(h:Po K E R Hf H ((asB d).bind k) Q):∃b,d=.bl b/\Po K E R Hf H (k b) Q:=by
 cases q:DL.asB d with
 |ok b=>rw[q] at h;exact⟨b,asB_ok q,h⟩
 |ex x=>exact(asB_noex q).elim
 |bad=>rw[q] at h;exact h.elim
theorem pd_and {rest:List Expr}{f g:DSt->M D}(h:PEd X E a f)(h2:PEd X E (.BoolOp .And (b::rest) pos) g):PEd X E (.BoolOp .And (a::b::rest) pos) (eAnd f g):=by
 obtain⟨t,p,q⟩:=h
 obtain⟨t2,p2,q2⟩:=h2
 refine⟨_,pe_and p p2,fun H0 B Hf sd σ H Q sr h=>?_⟩
 refine q H0 B Hf sd σ H _ sr (Po.bind h fun d v Hf1 H1 _ g1 rv h1=>?_)
 obtain⟨c,rfl,h2⟩:=Po.asB h1
 refine⟨c,rep_bl.mp rv,?_⟩
 cases c with
 |true=>rw[if_pos rfl] at h2 ⊢;exact q2 H0 B Hf1 sd σ H1 Q (sr.gr g1) h2
 |false=>rw[if_neg Bool.false_ne_true] at h2 ⊢;exact Po.ret (R:=rV X.K) g1.sub h2 (rep_bl.mpr rfl)
theorem pd_or {rest:List Expr}{f g:DSt->M D}(h:PEd X E a f)(h2:PEd X E (.BoolOp .Or (b::rest) pos) g):PEd X E (.BoolOp .Or (a::b::rest) pos) (eOr f g):=by
 obtain⟨t,p,q⟩:=h
 obtain⟨t2,p2,q2⟩:=h2
 refine⟨_,pe_or p p2,fun H0 B Hf sd σ H Q sr h=>?_⟩
 refine q H0 B Hf sd σ H _ sr (Po.bind h fun d v Hf1 H1 _ g1 rv h1=>?_)
 obtain⟨c,rfl,h2⟩:=Po.asB h1
 refine⟨c,rep_bl.mp rv,?_⟩
 cases c with
 |true=>rw[if_pos rfl] at h2 ⊢;exact Po.ret (R:=rV X.K) g1.sub h2 (rep_bl.mpr rfl)
 |false=>rw[if_neg Bool.false_ne_true] at h2 ⊢;exact q2 H0 B Hf1 sd σ H1 Q (sr.gr g1) h2
theorem pd_not {f:DSt->M D}(h:PEd X E a f):PEd X E (.UnaryOp .Not a pos) (eNot f):=by
 obtain⟨t,p,q⟩:=h
 refine⟨_,pe_not p,fun H0 B Hf sd σ H Q sr h=>?_⟩
 refine q H0 B Hf sd σ H _ sr (Po.bind h fun d v Hf1 H1 _ g1 rv h1=>?_)
 obtain⟨c,rfl,h2⟩:=Po.asB h1
 exact⟨c,rep_bl.mp rv,Po.ret (R:=rV X.K) g1.sub h2 (rep_bl.mpr rfl)⟩
theorem pd_ifexp {c:Expr}{f g:DSt->M D}{k:DSt->M Bool}(hc:PTd X E c k)(h:PEd X E a f)(h2:PEd X E b g):PEd X E (.IfExp c a b pos) (eIf k f g):=by
 obtain⟨t,p,q⟩:=hc
 obtain⟨t1,p1,q1⟩:=h
 obtain⟨t2,p2,q2⟩:=h2
 refine⟨_,pe_ifExp p p1 p2,fun H0 B Hf sd σ H Q sr h=>?_⟩
 refine q H0 B Hf sd σ H _ sr (Po.bind h fun c v Hf1 H1 _ g1 rv h1=>?_)
 have e:c=v:=rv
 subst e
 cases c with
 |true=>rw[if_pos rfl] at h1 ⊢;exact q1 H0 B Hf1 sd σ H1 Q (sr.gr g1) h1
 |false=>rw[if_neg Bool.false_ne_true] at h1 ⊢;exact q2 H0 B Hf1 sd σ H1 Q (sr.gr g1) h1
end
section
variable {X:Cx} {E:XK} {pos:Pos} {a b:Expr}
def Yz (sd:DSt):M O:=.ok (.nx sd)
def Zw (f g:DSt->M O)(sd:DSt):M O:=(f sd).bind fun o=>match o with
 |.nx sd'=>g sd'
 |o=>.ok o
theorem Qk:PSsd X E [] Yz:=⟨_,pss_nil,fun _ _ Hf _ _ _ _ sr h=>h _ Hf _ (Same.refl _) sr⟩
theorem Zo {st:Stmt}{f:DSt->M O}(h:PSd X E st f):PSsd X E [st] f:=by
 obtain⟨t,p,q⟩:=h
 exact⟨t,pss_one p,q⟩
theorem Zi {st:Stmt}{rest:List Stmt}{f g:DSt->M O}(h:PSd X E st f)(h2:PSsd X E rest g):PSsd X E (st::rest) (Zw f g):=by
 obtain⟨t,p,q⟩:=h
 obtain⟨t2,p2,q2⟩:=h2
 refine⟨_,pss_cons p p2,fun H0 B Hf sd σ H D sr h=>?_⟩
 refine q H0 B Hf sd σ H _ sr ?_
 unfold Zw at h
 cases e:f sd with
 |ok o =>
  rw[e] at h
  cases o with
  |nx sd'=>exact fun σ' Hf' H' e' sr'=>q2 H0 B Hf' sd' σ' H' D sr' (PoS.weak e' h)
  |rt s=>exact h
  |bk sd'=>exact h
  |ct sd'=>exact h
 |ex x=>rw[e] at h;exact h
 |bad=>rw[e] at h;exact h
def Z9 (i:Nat)(f:DSt->M D)(sd:DSt):M O:=(f sd).bind fun d=>.ok (.nx (sd.set i (some (.im d))))
theorem Zy (i:Nat){x:Str}{e:Expr}{f:DSt->M D}{pos':Pos}(hN:X.N.Nodup)(h:PEd X E e f)(hi:X.N[i]?=some x:=by rfl)(hx:Loc X.env.scope x:=by first|exact Or.inl rfl|exact Or.inr rfl)(hs:swapsWith e (some (.Name x pos')) pos.line X.env=pure false:=by rfl)(hf:X.fn x=true\/X.env.scope.names.lookup x=some .local:=by first|exact .inl rfl|exact .inr rfl|assumption) :
  PSd X E (.Assign [.Name x pos'] e pos) (Z9 i f):=by
 obtain⟨t,p,q⟩:=h
 refine⟨_,ps_set hN hi hx p hs hf,fun H0 B Hf sd σ H D sr h=>?_⟩
 refine q H0 B Hf sd σ H _ sr (PoS.bind sr h fun d v Hf1 H1 _ g1 sr1 rv h1=>?_)
 exact h1 _ Hf1 H1 (Same.refl _) (sr1.set_im i rv)
def Qq (f:DSt->M D)(sd:DSt):M O:=(f sd).bind fun d=>.ok (.rt (.im d))
theorem Zs {e:Expr}{f:DSt->M D}(h:PEd X E e f):PSd X E (.Return (some e) pos) (Qq f):=by
 obtain⟨t,p,q⟩:=h
 refine⟨_,ps_ret p,fun H0 B Hf sd σ H D sr h=>?_⟩
 refine q H0 B Hf sd σ H _ sr (PoS.bind sr h fun d v Hf1 H1 _ g1 sr1 rv h1=>?_)
 exact h1 v Hf1 H1 (Same.refl _) sr1.fin rv
def sIf (c:DSt->M Bool)(f g:DSt->M O)(sd:DSt):M O:=(c sd).bind fun b=>if b then f sd else g sd
theorem Q3 {c:Expr}{xs ys:List Stmt}{k:DSt->M Bool}{f g:DSt->M O}(hc:PTd X E c k)(h:PSsd X E xs f)(h2:PSsd X E ys g):PSd X E (.If c xs ys pos) (sIf k f g):=by
 obtain⟨t,p,q⟩:=hc
 obtain⟨t1,p1,q1⟩:=h
 obtain⟨t2,p2,q2⟩:=h2
 refine⟨_,ps_if p p1 p2,fun H0 B Hf sd σ H D sr h=>?_⟩
 refine q H0 B Hf sd σ H _ sr (PoS.bind (R:=rQ) sr h fun c v Hf1 H1 _ g1 sr1 rv h1=>?_)
 have e:c=v:=rv
 subst e
 cases c with
 |true=>rw[if_pos rfl] at h1 ⊢;exact q1 H0 B Hf1 sd σ H1 D sr1 h1
 |false=>rw[if_neg Bool.false_ne_true] at h1 ⊢;exact q2 H0 B Hf1 sd σ H1 D sr1 h1
def Q4 (c:DSt->M Bool)(f:DSt->M O):Nat->DSt->M O
 |0,_=>.bad
 |n+1,sd=>(c sd).bind fun b=>if b then((f sd).bind fun o=>match o with
   |.nx sd'=>Q4 c f n sd'
   |.ct sd'=>Q4 c f n sd'
   |.bk sd'=>.ok (.nx sd')
   |.rt s=>.ok (.rt s)) else .ok (.nx sd)
open Classical in
noncomputable def sWhile (c:DSt->M Bool)(f:DSt->M O)(sd:DSt):M O:=if h:∃n,Q4 c f n sd≠.bad then Q4 c f (choose h) sd else .bad
theorem whileD_mono (c:DSt->M Bool)(f:DSt->M O):∀(n m:Nat) (sd:DSt),n<=m->Q4 c f n sd≠.bad->Q4 c f m sd=Q4 c f n sd
 |0,_,_,_,h=>absurd rfl h
 |n+1,0,_,hm,_=>absurd hm (by lia)
 |n+1,m+1,sd,hm,h=>by
  unfold Q4 at h ⊢
  cases e:c sd with
  |ok b =>
   rw[e] at h
   simp only[M.bind_ok] at h ⊢
   cases b with
   |false=>rfl
   |true =>
    simp only[if_true] at h ⊢
    cases e2:f sd with
    |ok o =>
     rw[e2] at h
     simp only[M.bind_ok] at h ⊢
     cases o with
     |nx sd'=>exact whileD_mono c f n m sd' (by lia) h
     |ct sd'=>exact whileD_mono c f n m sd' (by lia) h
     |bk sd'=>rfl
     |rt s=>rfl
    |ex x=>rfl
    |bad=>rfl
  |ex x=>rfl
  |bad=>rfl
theorem sWhile_eq {c:DSt->M Bool}{f:DSt->M O}{n:Nat}{sd:DSt}(h:Q4 c f n sd≠.bad):sWhile c f sd=Q4 c f n sd:=by
 unfold sWhile
 have hx:∃n,Q4 c f n sd≠.bad:=⟨n,h⟩
 rw[dif_pos hx]
 have h2:=Classical.choose_spec hx
 rcases Nat.le_total n (Classical.choose hx) with l|l
 ·exact whileD_mono c f _ _ sd l h
 ·exact(whileD_mono c f _ _ sd l h2).symm
theorem psd_while {c:Expr}{body:List Stmt}{k:DSt->M Bool}{f:DSt->M O}(hp:PassesOwn (model X.prog X.w) X.A X.env X.xe)(hc:PTd X E c k)(h:PSsd X E body f):PSd X E (.While c body [] pos) (sWhile k f):=by
 obtain⟨t,p,q⟩:=hc
 obtain⟨t1,p1,q1⟩:=h
 refine⟨_,ps_while hp p p1,fun H0 B Hf sd σ H D sr h=>?_⟩
 obtain⟨n,hn⟩:∃n,PoS X.K E H0 B Hf (Q4 k f n sd) D:=by
  unfold sWhile at h
  split at h
  ·exact⟨_,h⟩
  ·exact h.elim
 refine⟨fun m σ' H'=>∃Hf' sd',Same Hf Hf'/\SR X.K H0 B Hf' sd' σ' H'/\PoS X.K E H0 B Hf' (Q4 k f m sd') D,⟨n,Hf,sd,Same.refl _,sr,hn⟩,?_⟩
 rintro m σ1 H1 ⟨Hf1,sd1,e1,sr1,h1⟩
 cases m with
 |zero=>exact h1.elim
 |succ m =>
  unfold Q4 at h1
  refine q H0 B Hf1 sd1 σ1 H1 _ sr1 (PoS.bind (R:=rQ) sr1 h1 fun c v Hf2 H2 _ g2 sr2 rv h2=>?_)
  have e:c=v:=rv
  subst e
  cases c with
  |false =>
   rw[if_neg Bool.false_ne_true] at h2 ⊢
   exact h2 σ1 Hf2 H2 (Same.refl _) sr2
  |true =>
   rw[if_pos rfl] at h2 ⊢
   refine⟨fun σ' H'=>∃Hf' sd',Same Hf Hf'/\SR X.K H0 B Hf' sd' σ' H'/\PoS X.K E H0 B Hf' (Q4 k f m sd') D,fun σ' H' w=>⟨m,Nat.lt_succ_self m,w⟩,?_⟩
   refine q1 H0 B Hf2 sd1 σ1 H2 _ sr2 ?_
   cases e2:f sd1 with
   |ok o =>
    rw[e2] at h2
    cases o with
    |nx sd'=>exact fun σ' Hf' H' e' sr'=>⟨Hf',sd',e1.trans (g2.fz.trans e'),sr',PoS.weak e' h2⟩
    |ct sd'=>exact fun σ' Hf' H' e' sr'=>⟨Hf',sd',e1.trans (g2.fz.trans e'),sr',PoS.weak e' h2⟩
    |bk sd'=>exact h2
    |rt s=>exact h2
   |ex x=>rw[e2] at h2;exact h2
   |bad=>rw[e2] at h2;exact h2
end
section
variable {prog:Program} {w:World} {A:Around} {E:Value->Shared->Prop}
theorem draw_list {it t:Addr}{items:Array Value}(hne:t≠it):∀(n i:Nat) (s:Shared) (Q:List Value->Shared->Prop),s.heap.IsListIter it t i->s.heap.IsList t items->i+n<=items.size ->
  (∀h',h'.IsListIter it t (i+n)->Heap.SameBut it s.heap h'->Q ((items.toList.drop i).take n) { s with heap:=h' })->wpAny (model prog w) A (draw (.ref it) n) Q E s
 |0,i,s,Q,hit,_,_,hQ=>by
  show wpAny _ _ (pure []) Q E s
  exact wpAny_pure (by simpa using hQ s.heap hit (Heap.SameBut.refl ..))
 |n+1,i,s,Q,hit,ht,hle,hQ=>by
  have hlt:i<items.size:=by lia
  show wpAny _ _ (pyNext (.ref it)>>=_) Q E s
  refine wpAny_bind (wpAny_pyNext_list_item hit ht (x:=items[i]) (by simp[hlt]) fun h₁ hit₁ hs₁=>?_)
  refine wpAny_bind (wpAny_holding (draw_list hne n (i+1) _ _ hit₁ (ht.extBut hs₁.extBut hne) (by lia) fun h₂ hit₂ hs₂=>wpAny_pure ?_))
  have hd:items.toList.drop i=items[i]::items.toList.drop (i+1):=by simp[List.drop_eq_getElem_cons,hlt]
  have:=hQ h₂ (by rw[show i+(n+1)=i+1+n by lia];exact hit₂) (hs₁.trans hs₂)
  rw[hd,List.take_succ_cons] at this
  exact this
theorem unpackItems_list {s:Shared}{t:Addr}{items:Array Value}{Q:List Value->Shared->Prop}(hh:A.handled=none)(ht:s.heap.IsList t items)(hQ:∀h',Heap.ExtBut s.heap.objs.size s.heap h'->Q items.toList { s with heap:=h' }):wpAny (model prog w) A (unpackItems (.ref t) items.size none) Q E s:=by
 have hlt:t≠s.heap.objs.size:=by obtain⟨o,ho,_⟩:=ht;exact Nat.ne_of_lt (Heap.lt_size ho)
 unfold unpackItems
 refine wpAny_bind ?_
 ·unfold notIterableAtAll
  refine wpAny_bind (wpAny_specialOf ht.typeIs slot_list_iter.lookup ?_)
  refine wpAny_pure ?_
  simp only[Bool.false_eq_true,if_false]
  refine wpAny_bind (wpAny_holding (wpAny_pyIter_list ht ?_))
  refine wpAny_bind (wpAny_holding (draw_list hlt items.size 0 _ _ ⟨_,Heap.get?_push_size _ rfl,rfl,rfl⟩ (ht.push _) (by lia) fun h₁ hit₁ hs₁=>?_))
  have hall:List.take items.size (List.drop 0 items.toList)=items.toList:=by
   rw[List.drop_zero];exact List.take_of_length_le (by simp)
  rw[hall]
  rw[if_neg (by simp)]
  have ht₁:h₁.IsList t items:=(ht.push _).extBut hs₁.extBut hlt
  refine wpAny_bind (wpAny_holding (wpAny_pyNext_list_end hh hit₁ ht₁ (by simp) fun h₂ he₂=>?_))
  simp only[Option.isSome_none,Bool.false_eq_true,if_false]
  refine wpAny_pure (hQ h₂ fun b o hb e=>he₂ b o hb (hs₁.extBut b o hb (Heap.get?_push_of_some _ e)))
theorem assign_Tuple_list {s:Shared}{env:Env}{elts:List Expr}{x1}{pos:Pos}{t:Addr}{items:Array Value}{Q:Unit->Shared->Prop}(hh:A.handled=none)(ht:s.heap.IsList t items)(hn:(assignEach elts env).length=items.size)(hstar:(assignEach elts env).findIdx? (·.1)=none)(h:∀h',Heap.ExtBut s.heap.objs.size s.heap h'->wpAny (model prog w) A (assignInOrder ((assignEach elts env).map (·.2)) items.toList) Q E { s with heap:=h' }) :
  wpAny (model prog w) A (assign (.Tuple elts x1 pos) env (.ref t)) Q E s:=by
 rw[assign_Tuple]
 refine wpAny_bind (wpAny_standAt ?_)
 unfold unpack
 rw[hn,hstar]
 exact wpAny_bind (wpAny_holding (unpackItems_list hh ht h))
def chs (x:Str):List V:=x.cps.toList.map fun c=>V.str ⟨#[c]⟩
theorem draw_str {it:Addr}{x:Str}{t:Tok}:∀(n i:Nat) (s:Shared) (Q:List Value->Shared->Prop),s.heap.IsStrIter it "str_ascii_iterator" x t i->i+n<=x.cps.size ->
  (∀h' tk us,h'.IsStrIter it "str_ascii_iterator" x t (i+n)->Heap.SameBut it s.heap h'->Vals (((chs x).drop i).take n) us->Q us { s with heap:=h',toks:=tk })->wpAny (model prog w) A (draw (.ref it) n) Q E s
 |0,i,s,Q,hit,_,hQ=>by
  show wpAny _ _ (pure []) Q E s
  exact wpAny_pure (hQ s.heap s.toks [] hit (Heap.SameBut.refl ..) (by simpa using Paired.nil))
 |n+1,i,s,Q,hit,hle,hQ=>by
  have hlt:i<x.cps.size:=by lia
  show wpAny _ _ (pyNext (.ref it)>>=_) Q E s
  refine wpAny_bind (wpAny_pyNext_ascii_item hit (c:=x.cps[i]) (by simp[hlt]) fun h₁ hit₁ hs₁=>?_)
  refine wpAny_bind (wpAny_holding (draw_str n (i+1) _ _ hit₁ (by lia) fun h₂ tk us hit₂ hs₂ hv=>wpAny_pure ?_))
  have hd:(chs x).drop i=V.str ⟨#[x.cps[i]]⟩::(chs x).drop (i+1):=by
   have hl:i<(chs x).length:=by simp[chs,hlt]
   rw[List.drop_eq_getElem_cons hl];simp[chs]
  refine hQ h₂ tk _ (by rw[show i+(n+1)=i+1+n by lia];exact hit₂) (hs₁.trans hs₂) ?_
  rw[hd,List.take_succ_cons]
  exact .cons ⟨_,rfl⟩ hv
theorem unpackItems_str {s:Shared}{x:Str}{t:Tok}{Q:List Value->Shared->Prop}(hh:A.handled=none)(ha:x.cps.all (·<128)=true)(hQ:∀h' tk us,Heap.ExtBut s.heap.objs.size s.heap h'->Vals (chs x) us->Q us { s with heap:=h',toks:=tk }):wpAny (model prog w) A (unpackItems (.str x t) x.cps.size none) Q E s:=by
 unfold unpackItems
 refine wpAny_bind ?_
 ·unfold notIterableAtAll
  refine wpAny_bind (wpAny_specialOf (typeIs_str s x t) PySem.F.slot_str_iter.lookup ?_)
  refine wpAny_pure ?_
  simp only[Bool.false_eq_true,if_false]
  refine wpAny_bind (wpAny_holding (wpAny_pyIter_ascii ha ?_))
  refine wpAny_bind (wpAny_holding (draw_str x.cps.size 0 _ _ ⟨_,Heap.get?_push_size _ rfl,rfl,rfl⟩ (by lia) fun h₁ tk us hit₁ hs₁ hv=>?_))
  have hall:List.take x.cps.size (List.drop 0 (chs x))=chs x:=by
   rw[List.drop_zero];exact List.take_of_length_le (by simp[chs])
  rw[hall] at hv
  have hl:us.length=x.cps.size:=by rw[<-hv.length];simp[chs]
  rw[if_neg (by simp[hl])]
  refine wpAny_bind (wpAny_holding (wpAny_pyNext_ascii_end hh hit₁ (by simp) fun h₂ he₂=>?_))
  simp only[Option.isSome_none,Bool.false_eq_true,if_false]
  refine wpAny_pure (hQ h₂ tk us (fun b o hb e=>he₂ b o hb (hs₁.extBut b o hb (Heap.get?_push_of_some _ e))) hv)
theorem assign_Tuple_str {s:Shared}{env:Env}{elts:List Expr}{x1}{pos:Pos}{x:Str}{t:Tok}{Q:Unit->Shared->Prop}(hh:A.handled=none)(ha:x.cps.all (·<128)=true)(hn:(assignEach elts env).length=x.cps.size)(hstar:(assignEach elts env).findIdx? (·.1)=none)(h:∀h' tk us,Heap.ExtBut s.heap.objs.size s.heap h'->Vals (chs x) us->wpAny (model prog w) A (assignInOrder ((assignEach elts env).map (·.2)) us) Q E { s with heap:=h',toks:=tk }) :
  wpAny (model prog w) A (assign (.Tuple elts x1 pos) env (.str x t)) Q E s:=by
 rw[assign_Tuple]
 refine wpAny_bind (wpAny_standAt ?_)
 unfold unpack
 rw[hn,hstar]
 exact wpAny_bind (wpAny_holding (unpackItems_str hh ha h))
end
section
variable {X:Cx} {pos:Pos}
def gSeq (K:PySem.W.Frag)(n:Nat)(t:TGs):TG:=fun v σ H Q=>(∃a xs,v=.ref a/\(SqT K H a xs\/SqL K H a xs)/\xs.length=n/\t xs σ H Q)\/∃x:Str,v=.str x/\x.cps.all (·<128)=true/\x.cps.size=n/\t (chs x) σ H Q
theorem pg_seq {es:List Expr}{k:Nat}{t:TGs}{n:Nat}(hc:X.calm=true)(h:PGs X es t)(hn:(assignEach es X.env).length=n:=by rfl)(hst:(assignEach es X.env).findIdx? (·.1)=none:=by rfl):PG X (.Tuple es k pos) (gSeq X.K n t):=by
 intro pins s σ H v u Q I r hw
 rcases hw with⟨a,xs,e1,hq,hl,hw⟩|⟨x,e1,ha,hl,hw⟩
 case inr =>
  subst e1
  obtain⟨tk,rfl⟩:=(show ∃t,u=Value.str x t from r)
  refine assign_Tuple_str (I.ok.hd hc) ha (by rw[hn,hl]) hst fun h' tk us hx hv=>?_
  have I1:Inv X pins σ H { s with heap:=h',toks:=tk }:=I.kept (t':=tk) fun b o e=>hx b o (Nat.ne_of_lt (Heap.lt_size e)) e
  exact h pins _ σ H (chs x) _ Q I1 hv hw
 subst e1
 cases r
 rcases hq with hq|hq
 ·obtain⟨its,rv,ht,hz⟩:=I.tuple hq
  refine assign_Tuple_tuple (I.ok.hd hc) ht (by simp[hn,<-hl,rv.length]) hst fun h' hx=>?_
  have I1:Inv X pins σ H { s with heap:=h' }:=I.kept (t':=s.toks) fun b o e=>hx b o (Nat.ne_of_lt (Heap.lt_size e)) e
  exact h pins _ σ H xs _ Q I1 (by simpa using rv) hw
 ·obtain⟨its,rv,ht,hz⟩:=I.list hq
  refine assign_Tuple_list (I.ok.hd hc) ht.isList (by simp[hn,<-hl,rv.length]) hst fun h' hx=>?_
  have I1:Inv X pins σ H { s with heap:=h' }:=I.kept (t':=s.toks) fun b o e=>hx b o (Nat.ne_of_lt (Heap.lt_size e)) e
  exact h pins _ σ H xs _ Q I1 (by simpa using rv) hw
end
def PGd (X:Cx)(tg:Expr)(g:D->DSt->M DSt):Prop :=
 ∃t:TG,PG X tg t/\∀(H0:Hp) (B:Addr->Prop) (Hf:Hp) (sd:DSt) (σ:L2.St) (H:Hp) (v:V) (d:D) (sd':DSt) (Q:L2.St->Hp->Prop),SR X.K H0 B Hf sd σ H->Rep X.K Hf d v->g d sd=.ok sd' ->
  (∀σ',SR X.K H0 B Hf sd' σ' H->Q σ' H)->t v σ H Q
def PGsd (X:Cx)(ts:List Expr)(g:List D->DSt->M DSt):Prop :=
 ∃t:TGs,PGs X ts t/\∀(H0:Hp) (B:Addr->Prop) (Hf:Hp) (sd:DSt) (σ:L2.St) (H:Hp) (vs:List V) (ds:List D) (sd':DSt) (Q:L2.St->Hp->Prop),SR X.K H0 B Hf sd σ H->Reps X.K Hf ds vs->g ds sd=.ok sd' ->
  (∀σ',SR X.K H0 B Hf sd' σ' H->Q σ' H)->t vs σ H Q
section
variable {X:Cx} {E:XK} {pos:Pos} {a b:Expr}
def gNm (i:Nat)(d:D)(sd:DSt):M DSt:=.ok (sd.set i (some (.im d)))
theorem Qx (i:Nat){x:Str}(hN:X.N.Nodup)(hi:X.N[i]?=some x:=by rfl)(hx:Loc X.env.scope x:=by first|exact Or.inl rfl|exact Or.inr rfl)(hf:X.fn x=true\/X.env.scope.names.lookup x=some .local:=by first|exact .inl rfl|exact .inr rfl|assumption) :
  PGd X (.Name x pos) (gNm i):=by
 refine⟨_,pg_name hN hi hx hf,fun H0 B Hf sd σ H v d sd' Q sr r e h=>?_⟩
 cases e
 exact h _ (sr.set_im i r)
def gsNil:List D->DSt->M DSt
 |[],sd=>.ok sd
 |_,_=>.bad
def Y0 (g:D->DSt->M DSt)(gs:List D->DSt->M DSt):List D->DSt->M DSt
 |d::ds,sd=>(g d sd).bind fun sd'=>gs ds sd'
 |_,_=>.bad
theorem pgsd_nil:PGsd X [] gsNil:=by
 refine⟨_,pgs_nil,fun H0 B Hf sd σ H vs ds sd' Q sr r e h=>?_⟩
 cases ds with
 |nil=>cases e;exact⟨reps_nil.mp r,h σ sr⟩
 |cons d ds=>cases e
theorem pgsd_cons {es:List Expr}{g:D->DSt->M DSt}{gs:List D->DSt->M DSt}(h1:PGd X a g)(h2:PGsd X es gs)(hs:(assignEach (a::es) X.env).map (·.2)=assign a X.env::(assignEach es X.env).map (·.2):=by rfl):PGsd X (a::es) (Y0 g gs):=by
 obtain⟨t,p,q⟩:=h1
 obtain⟨t2,p2,q2⟩:=h2
 refine⟨_,pgs_cons p p2 hs,fun H0 B Hf sd σ H vs ds sd' Q sr r e h=>?_⟩
 cases ds with
 |nil=>cases e
 |cons d ds =>
  obtain⟨v,vr,rfl,rv,rr⟩:=reps_cons.mp r
  cases e1:g d sd with
  |ok sd1 =>
   have e':gs ds sd1=.ok sd':=by
    have e:(g d sd).bind (fun sd'=>gs ds sd')=.ok sd':=e
    rw[e1] at e
    exact e
   exact⟨v,vr,rfl,q H0 B Hf sd σ H v d sd1 _ sr rv e1 fun σ1 sr1=>q2 H0 B Hf sd1 σ1 H vr ds sd' Q sr1 rr e' h⟩
  |ex x=>have e:(g d sd).bind (fun sd'=>gs ds sd')=.ok sd':=e;rw[e1] at e;cases e
  |bad=>have e:(g d sd).bind (fun sd'=>gs ds sd')=.ok sd':=e;rw[e1] at e;cases e
def gTupD (n:Nat)(gs:List D->DSt->M DSt):D->DSt->M DSt
 |.tup ds,sd=>if ds.length=n then gs ds sd else .bad
 |.lst ds,sd=>if ds.length=n then gs ds sd else .bad
 |.str x,sd=>if x.cps.size=n/\x.cps.all (·<128)=true then gs (x.cps.toList.map fun c=>.str ⟨#[c]⟩) sd else .bad
 |_,_=>.bad
theorem reps_chs {K:PySem.W.Frag}{H:Hp}:∀l:List Nat,Reps K H (l.map fun c=>D.str ⟨#[c]⟩) (l.map fun c=>V.str ⟨#[c]⟩)
 |[]=>Reps.nil
 |_::l=>Reps.cons (rep_str.mpr rfl) (reps_chs l)
theorem pgd_tup {es:List Expr}{k:Nat}{gs:List D->DSt->M DSt}{n:Nat}(hc:X.calm=true)(h:PGsd X es gs)(hn:(assignEach es X.env).length=n:=by rfl)(hst:(assignEach es X.env).findIdx? (·.1)=none:=by rfl):PGd X (.Tuple es k pos) (gTupD n gs):=by
 obtain⟨t,p,q⟩:=h
 refine⟨_,pg_seq hc p hn hst,fun H0 B Hf sd σ H v d sd' Q sr r e h=>?_⟩
 unfold gTupD at e
 split at e
 ·rename_i ds
  split at e
  ·rename_i hl
   obtain⟨a,xs,rfl,ha,hr⟩:=Z2 r
   exact .inl ⟨a,xs,rfl,.inl (Same.seqT sr.sub ha),by rw[<-hr.length];exact hl,q H0 B Hf sd σ H xs ds sd' Q sr hr e h⟩
  ·cases e
 ·rename_i ds
  split at e
  ·rename_i hl
   obtain⟨a,xs,rfl,ha,hr⟩:=rep_lst.mp r
   exact .inl ⟨a,xs,rfl,.inr (sr.sub.seq ha),by rw[<-hr.length];exact hl,q H0 B Hf sd σ H xs ds sd' Q sr hr e h⟩
  ·cases e
 ·rename_i x
  split at e
  ·rename_i hl
   exact .inr ⟨x,rep_str.mp r,hl.2,hl.1,q H0 B Hf sd σ H (chs x) _ sd' Q sr (reps_chs x.cps.toList) e h⟩
  ·cases e
 ·cases e
def sAsg (f:DSt->M D)(g:D->DSt->M DSt)(sd:DSt):M O:=(f sd).bind fun d=>match g d sd with
 |.ok sd'=>.ok (.nx sd')
 |_=>.bad
theorem psd_asg {e tg:Expr}{f:DSt->M D}{g:D->DSt->M DSt}(h:PEd X E e f)(hg:PGd X tg g)(hs:swapsWithSole [tg] e pos.line X.env=pure false:=by rfl)(hw:swappedStores [tg] e X.env=pure none:=by rfl)(h1:(assignEach [tg] X.env).map (·.2)=[assign tg X.env]:=by rfl):PSd X E (.Assign [tg] e pos) (sAsg f g):=by
 obtain⟨t,p,q⟩:=h
 obtain⟨tg',pg,qg⟩:=hg
 refine⟨_,ps_asg p pg hs hw h1,fun H0 B Hf sd σ H D sr h=>?_⟩
 refine q H0 B Hf sd σ H _ sr (PoS.bind sr h fun d v Hf1 H1 _ g1 sr1 rv h1=>?_)
 split at h1
 ·rename_i sd' e1
  exact qg H0 B Hf1 sd σ H1 v d sd' _ sr1 rv e1 fun σ' sr'=>h1 σ' Hf1 H1 (Same.refl _) sr'
 ·exact h1.elim
def sPar (i j:Nat)(fs:DSt->M (List D))(sd:DSt):M O:=(fs sd).bind fun ds=>match ds with
 |[d,e]=>.ok (.nx ((sd.set i (some (.im d))).set j (some (.im e))))
 |_=>.bad
theorem psd_par (i j:Nat){x y:Str}{fs:DSt->M (List D)}{px py pt:Pos}{kt k2 pt2}(hc:X.calm=true)(hN:X.N.Nodup)(ha:PAd X E [a,b] fs)(hw:swappedStores [.Tuple [.Name x px,.Name y py] kt pt] (.Tuple [a,b] k2 pt2) X.env=pure (some [x,y]))(hi:X.N[i]?=some x:=by rfl)(hj:X.N[j]?=some y:=by rfl)(hij:i≠j:=by decide)(hx:X.env.scope.names.lookup x=some .local:=by rfl)(hy:X.env.scope.names.lookup y=some .local:=by rfl)(hs:swapsWithSole [.Tuple [.Name x px,.Name y py] kt pt] (.Tuple [a,b] k2 pt2) pos.line X.env=pure false:=by rfl) :
  PSd X E (.Assign [.Tuple [.Name x px,.Name y py] kt pt] (.Tuple [a,b] k2 pt2) pos) (sPar i j fs):=by
 obtain⟨t,p,q⟩:=ha
 refine⟨_,ps_par hc hN hi hj hij hx hy p hw hs,fun H0 B Hf sd σ H D sr h=>?_⟩
 refine q H0 B Hf sd σ H _ sr (PoS.bind sr h fun ds vs Hf1 H1 _ g1 sr1 rs h1=>?_)
 split at h1
 ·rename_i d e
  obtain⟨v,w,rfl,rv,rw'⟩:=reps2 rs
  exact⟨v,w,rfl,h1 _ Hf1 H1 (Same.refl _) ((sr1.set_im i rv).set_im j rw')⟩
 ·exact h1.elim
def S.toD:S->M D
 |.im d=>.ok d
 |.ow ds=>.ok (.lst ds)
 |.od _=>.bad
 |.dk _=>.bad
 |.xc _=>.bad
 |.fn _=>.bad
 |.ob _ _ _=>.bad
 |.fl _ _ _=>.bad
def spN (K:PySem.W.Frag)(F:List D->M S):Sp:=fun vs H Q _=>∃Hf ds s,Same Hf H/\Reps K Hf ds vs/\F ds=.ok s/\∀v Hf' H',Gr Hf H Hf' H'->RS K H Hf' H' s v->Q v H'
def fin' (r:M O):M S:=r.bind fun o=>match o with
 |.rt s=>.ok s
 |.nx _=>.ok (.im .non)
 |_=>.bad
def fnD (n m:Nat)(f:DSt->M O)(ds:List D):M S:=if ds.length=n then fin' (f (ds.map (fun d=>some (S.im d))++List.replicate m none)) else .bad
theorem sr_start {K:PySem.W.Frag}{N:List Str}{Hf H:Hp}{ds:List D}{vs:List V}{m:Nat}(e:Same Hf H)(r:Reps K Hf ds vs)(hN:N.length=ds.length+m) :
  SR K H (fun a=>Lv H a/\Hf a=none) Hf (ds.map (fun d=>some (S.im d))++List.replicate m none) (L2.Xe N vs) H where
 sub:=e
 all:=Same.refl _
 ban:=fun _ h=>h.2
 bt:=fun _ h=>h.1
 len:=by
  unfold L2.Xe
  have:=r.length
  simp only[List.length_append,List.length_map,List.length_replicate]
  lia
 imS:=fun i d hi hz=>by
  unfold L2.Xe
  by_cases hl:i<ds.length
  ·rw[List.getElem?_append_left (by simpa using hl),List.getElem?_map] at hi
   cases q:ds[i]? with
   |none=>rw[q] at hi;cases hi
   |some d' =>
    rw[q] at hi
    cases hi
    obtain⟨v,e1,e2⟩:=r.get q
    refine⟨v,?_,e2⟩
    have:i<vs.length:=(List.getElem?_eq_some_iff.mp e1).1
    rw[List.getElem?_append_left (by simpa using this),List.getElem?_map,e1]
    rfl
  ·rw[List.getElem?_append_right (by simpa using hl),List.getElem?_replicate] at hi
   split at hi<;>cases hi
 ow:=fun i t hi ho=>by
  by_cases hl:i<ds.length
  ·rw[List.getElem?_append_left (by simpa using hl),List.getElem?_map] at hi
   cases q:ds[i]? with
   |none=>rw[q] at hi;cases hi
   |some d'=>rw[q] at hi;cases hi;cases ho
  ·rw[List.getElem?_append_right (by simpa using hl),List.getElem?_replicate] at hi
   split at hi<;>cases hi
 sep:=fun i j t _ p _ hi ho _ _ _ _=>by
  by_cases hl:i<ds.length
  ·rw[List.getElem?_append_left (by simpa using hl),List.getElem?_map] at hi
   cases q:ds[i]? with
   |none=>rw[q] at hi;cases hi
   |some d'=>rw[q] at hi;cases hi;cases ho
  ·rw[List.getElem?_append_right (by simpa using hl),List.getElem?_replicate] at hi
   split at hi<;>cases hi
theorem Xd {P:Program}{w:World}{K:PySem.W.Frag}{mg:Str->Option Value}{base:Heap}{x qual:Str}{st:Stmt}{f:Addr}{fd:FuncData}{N ps:List Str}{k m n:Nat}{fb:DSt->M O}(F:Fun K x qual st f fd)(sc:FnScope N ps (Zg st))(hn:ps.length=n)(hN:N.length=n+m)(hbody:∀(cdv:Value) (A:Around) (outer:List Env) (s:Shared) (H:Hp) (E:XK),Room k (A.deeper (envOfC qual (Zg st) s.heap.objs.size f cdv)) ->
   PSsd (cxOf CX0 P w K mg base N qual (Zg st) f cdv A outer s H E).nox E0 (Z7 st) fb):FnOk P w K mg base CX0 (k+1) f fd ps (spN K (fnD n m fb)):=by
 refine F.ok sc (fun vs H Q E h=>?_) (fun cdv A outer s H vs Q E hr h=>?_)
 ·obtain⟨Hf,ds,s,e,r,hF,_⟩:=h
  unfold fnD at hF
  split at hF
  ·rename_i hl
   rw[<-r.length,hl,hn]
  ·cases hF
 ·obtain⟨Hf,ds,s',e,r,hF,q⟩:=h
  obtain⟨t,p,qt⟩:=hbody cdv A outer s H E hr
  unfold fnD at hF
  split at hF
  ·rename_i hl
   refine⟨t,p,qt H _ Hf _ (L2.Xe N vs) H _ (sr_start (N:=N) (m:=m) e r (by lia)) ?_⟩
   generalize fb (List.map (fun d=>some (S.im d)) ds++List.replicate m none)=ro at hF
   have back:∀{v:V} {Hf' H':Hp} {s:DL.S},Same Hf Hf'->Fin' H (fun a=>Lv H a/\Hf a=none) Hf' H'->RS K H Hf' H' s v->s=s'->Q v H':=fun {v Hf' H' s} e1 e2 e3 e4=>by
    subst e4
    exact q v Hf' H' ⟨e1,e2.sub,e2.all,fun a h1 h2=>e2.ban a ⟨h1,h2⟩⟩ e3
   cases ro with
   |ok o =>
    cases o with
    |rt s2 =>
     have e':s2=s':=by cases hF;rfl
     exact fun v Hf' H' e1 e2 e3=>back e1 e2 e3 e'
    |nx sd' =>
     have e':DL.S.im .non=s':=by cases hF;rfl
     exact fun σ' Hf' H' e1 sr'=>back (v:=.non) (s:=DL.S.im .non) e1 sr'.fin (show Rep K Hf' .non .non from rep_non.mpr rfl) e'
    |bk sd'=>cases hF
    |ct sd'=>cases hF
   |ex x=>cases hF
   |bad=>cases hF
  ·cases hF
def Zt (F:List D->M S)(fs:DSt->M (List D))(sd:DSt):M D:=(fs sd).bind fun ds=>match F ds with
 |.ok s=>s.toD
 |_=>.bad
theorem pd_call {k:Nat}{f:Addr}{fd:FuncData}{ps:List Str}{F:List D->M S}{x:Str}{p:Pos}{es:List Expr}{fs:DSt->M (List D)}(G:FnOk X.prog X.w X.K X.mg X.base CX0 k f fd ps (spN X.K F))(hr:Room k X.A)(hm:X.mg x=some (.ref f))(hk:PySem.W.keepIn X.K (.ref f)=true)(hb:Binds X.K fd ps [])(ha:PAd X E (a::es) fs)(hg:Gl X x:=by rfl) (hdb:(x==("__debug__" : Str))=false:=by decide) (he:starEach (a::es) X.env=(false,eval a X.env)::starEach es X.env:=by rfl) (hpl:(backTo pos (starEach es X.env)).any (·.1)=false:=by rfl) :
  PEd X E (.Call (.Name x p) (a::es) [] pos) (Zt F fs):=by
 obtain⟨t,pt,qt⟩:=ha
 refine⟨_,pe_call (dvs:=[]) (E:=E0) G hr hg hm hk hb .nil pass0 pt hdb he hpl,fun H0 B Hf sd σ H Q sr h=>?_⟩
 refine qt H0 B Hf sd σ H _ sr (Po.bind h fun ds vs Hf1 H1 _ g1 rs h1=>?_)
 split at h1
 ·rename_i s e
  refine⟨Hf1,ds,s,g1.sub,by rw[List.append_nil];exact rs,e,fun v Hf' H' g2 rv=>?_⟩
  cases s with
  |im d=>exact h1 v Hf' H' g2 rv
  |ow es =>
   obtain⟨p,rfl,e1,e2,xs,e3,e4⟩:=rv
   refine h1 _ (upd Hf' p (.lst xs)) H' ⟨g2.fz.trans (Z1 e2 _),fun b u q=>?_,g2.all,fun a h1 h2=>?_⟩ (rep_lst.mpr ⟨p,xs,rfl,SqL.of Zn,e4.mono (Z1 e2 _)⟩)
   ·by_cases hb:b=p
    ·subst hb;rw[Zn] at q;rw[e3];exact q
    ·rw[Zj hb] at q;exact g2.sub b u q
   ·have:a≠p:=fun z=>h1.nn (z▸e1)
    rw[Zj this];exact g2.ban a h1 h2
  |od kvs=>exact h1.elim
  |dk kvs=>exact h1.elim
  |xc x=>exact h1.elim
  |fn x=>exact h1.elim
  |ob a c r=>exact h1.elim
  |fl a g q=>exact h1.elim
 ·exact h1.elim
end
mutual
def D.eq:D->D->Bool
 |.non,.non=>true
 |.bl a,.bl b=>a==b
 |.bl a,.int b=>(if a then 1 else 0)==b
 |.int a,.bl b=>a==(if b then 1 else 0)
 |.int a,.int b=>a==b
 |.str a,.str b=>a==b
 |.tup xs,.tup ys=>D.eqs xs ys
 |.lst xs,.lst ys=>D.eqs xs ys
 |_,_=>false
def D.eqs:List D->List D->Bool
 |[],[]=>true
 |x::xs,y::ys=>D.eq x y&&D.eqs xs ys
 |_,_=>false
end
mutual
def D.dep:D->Nat
 |.tup ds=>D.deps ds+1
 |.lst ds=>D.deps ds+1
 |_=>0
def D.deps:List D->Nat
 |[]=>0
 |d::ds=>max (D.dep d) (D.deps ds)
end
mutual
theorem D.eq_refl:∀d:D,D.eq d d=true
 |.non=>by rw[D.eq]
 |.bl b=>by rw[D.eq];simp
 |.int i=>by rw[D.eq];simp
 |.str x=>by rw[D.eq];simp
 |.tup ds=>by rw[D.eq];exact D.eqs_refl ds
 |.lst ds=>by rw[D.eq];exact D.eqs_refl ds
theorem D.eqs_refl:∀ds:List D,D.eqs ds ds=true
 |[]=>by rw[D.eqs]
 |d::ds=>by rw[D.eqs,D.eq_refl d,D.eqs_refl ds];rfl
end
theorem D.eqs_all:∀ds es:List D,D.eqs ds es=((List.range (min ds.length es.length)).all (fun j=>D.eq (ds.getD j .non) (es.getD j .non))&&ds.length==es.length)
 |[],[]=>by rw[D.eqs];rfl
 |[],_::_=>by rw[D.eqs];simp;all_goals (intros;simp_all)
 |_::_,[]=>by rw[D.eqs];simp;all_goals (intros;simp_all)
 |d::ds,e::es=>by
  have h:min (d::ds).length (e::es).length=min ds.length es.length+1:=by simp only[List.length_cons];lia
  rw[D.eqs,D.eqs_all ds es,h,List.range_succ_eq_map,List.all_cons,List.all_map,Bool.and_assoc]
  congr 1
  simp only[List.length_cons]
  congr 1
  by_cases q:ds.length=es.length
  ·simp[q]
  ·have q':¬ds.length+1=es.length+1:=by lia
   simp[q]
section
variable {X:Cx} {pins:List (Addr×Obj)} {σ:L2.St} {H:Hp} {s:Shared}
theorem seq_tl (I:Inv X pins σ H s){a:Addr}{xs ys:List V}(h1:SqT X.K H a xs)(h2:SqL X.K H a ys):False:=by
 obtain⟨its,_,⟨o,e,c,_⟩,_⟩:=I.tuple h1
 obtain⟨its2,_,p,_⟩:=I.list h2
 obtain⟨o2,e2,c2,_⟩:=p.isList
 rw[e] at e2
 cases e2
 rw[c] at c2
 exact absurd c2 (by decide)
mutual
theorem rep_inj (I:Inv X pins σ H s):∀(d d':D) (v:V),Rep X.K H d v->Rep X.K H d' v->d=d'
 |.non,d',v,h1,h2=>by
  rw[rep_non] at h1;subst h1
  cases d' with
  |non=>rfl
  |bl b=>rw[rep_bl] at h2;cases h2
  |int b=>rw[rep_int] at h2;cases h2
  |str b=>rw[rep_str] at h2;cases h2
  |tup b=>rw[rep_tup] at h2;obtain⟨_,_,e,_⟩:=h2;cases e
  |lst b=>rw[rep_lst] at h2;obtain⟨_,_,e,_⟩:=h2;cases e
 |.bl a,d',v,h1,h2=>by
  rw[rep_bl] at h1;subst h1
  cases d' with
  |non=>rw[rep_non] at h2;cases h2
  |bl b=>rw[rep_bl] at h2;cases h2;rfl
  |int b=>rw[rep_int] at h2;cases h2
  |str b=>rw[rep_str] at h2;cases h2
  |tup b=>rw[rep_tup] at h2;obtain⟨_,_,e,_⟩:=h2;cases e
  |lst b=>rw[rep_lst] at h2;obtain⟨_,_,e,_⟩:=h2;cases e
 |.int a,d',v,h1,h2=>by
  rw[rep_int] at h1;subst h1
  cases d' with
  |non=>rw[rep_non] at h2;cases h2
  |bl b=>rw[rep_bl] at h2;cases h2
  |int b=>rw[rep_int] at h2;cases h2;rfl
  |str b=>rw[rep_str] at h2;cases h2
  |tup b=>rw[rep_tup] at h2;obtain⟨_,_,e,_⟩:=h2;cases e
  |lst b=>rw[rep_lst] at h2;obtain⟨_,_,e,_⟩:=h2;cases e
 |.str a,d',v,h1,h2=>by
  rw[rep_str] at h1;subst h1
  cases d' with
  |non=>rw[rep_non] at h2;cases h2
  |bl b=>rw[rep_bl] at h2;cases h2
  |int b=>rw[rep_int] at h2;cases h2
  |str b=>rw[rep_str] at h2;cases h2;rfl
  |tup b=>rw[rep_tup] at h2;obtain⟨_,_,e,_⟩:=h2;cases e
  |lst b=>rw[rep_lst] at h2;obtain⟨_,_,e,_⟩:=h2;cases e
 |.tup ds,d',v,h1,h2=>by
  obtain⟨a,xs,rfl,ha,hr⟩:=Z2 h1
  cases d' with
  |non=>rw[rep_non] at h2;cases h2
  |bl b=>rw[rep_bl] at h2;cases h2
  |int b=>rw[rep_int] at h2;cases h2
  |str b=>rw[rep_str] at h2;cases h2
  |tup es =>
   obtain⟨b,ys,e,hb,hr2⟩:=Z2 h2
   cases e
   have:=I.tuple_inj ha hb
   subst this
   rw[reps_inj I ds es xs hr hr2]
  |lst es =>
   obtain⟨b,ys,e,hb,hr2⟩:=rep_lst.mp h2
   cases e
   exact(seq_tl I ha hb).elim
 |.lst ds,d',v,h1,h2=>by
  obtain⟨a,xs,rfl,ha,hr⟩:=rep_lst.mp h1
  cases d' with
  |non=>rw[rep_non] at h2;cases h2
  |bl b=>rw[rep_bl] at h2;cases h2
  |int b=>rw[rep_int] at h2;cases h2
  |str b=>rw[rep_str] at h2;cases h2
  |tup es =>
   obtain⟨b,ys,e,hb,hr2⟩:=Z2 h2
   cases e
   exact(seq_tl I hb ha).elim
  |lst es =>
   obtain⟨b,ys,e,hb,hr2⟩:=rep_lst.mp h2
   cases e
   have:=I.list_inj ha hb
   subst this
   rw[reps_inj I ds es xs hr hr2]
theorem reps_inj (I:Inv X pins σ H s):∀(ds es:List D) (vs:List V),Reps X.K H ds vs->Reps X.K H es vs->ds=es
 |[],[],_,_,_=>rfl
 |[],e::es,vs,h1,h2=>by
  rw[reps_nil] at h1;subst h1
  obtain⟨_,_,z,_⟩:=reps_cons.mp h2
  cases z
 |d::ds,[],vs,h1,h2=>by
  rw[reps_nil] at h2;subst h2
  obtain⟨_,_,z,_⟩:=reps_cons.mp h1
  cases z
 |d::ds,e::es,vs,h1,h2=>by
  obtain⟨v,r,rfl,a1,a2⟩:=reps_cons.mp h1
  obtain⟨v',r',z,b1,b2⟩:=reps_cons.mp h2
  cases z
  rw[rep_inj I d e v a1 b1,reps_inj I ds es r a2 b2]
end
structure Cm (A:Around) (s:Shared) (u v:Value) (b:Bool):Prop where
 rc:SeqAt.RcAt A s u v b
 ne:SeqAt.RcNeAt A s u v (!b)
 eq:SeqAt.EqAt A s u v b
mutual
theorem cmp_at (I:Inv X pins σ H s):∀(x y:D) (A:Around) (v w:V) (u1 u2:Value),A.units+x.dep<cLine->Rep X.K H x v->Rep X.K H y w->RelV v u1->RelV w u2->Cm A s u1 u2 (D.eq x y)
 |.non,y,A,v,w,u1,u2,hu,rx,ry,r1,r2=>by
  rw[rep_non] at rx;subst rx
  have r1:u1=Value.none:=r1
  subst r1
  have hu':A.units<cLine:=by lia
  cases y with
  |non=>rw[rep_non] at ry;subst ry;cases (show u2=Value.none from r2);rw[D.eq];exact⟨.none_none,.none_none,.same _⟩
  |bl b=>rw[rep_bl] at ry;subst ry;cases (show u2=Value.bool b from r2);rw[D.eq];exact⟨.none_bool b,.none_bool b,.none_bool b⟩;all_goals (intros;simp_all)
  |int b=>rw[rep_int] at ry;subst ry;obtain⟨t,q⟩:=(show ∃t,u2=Value.int b t from r2);subst q;rw[D.eq];exact⟨.none_int b t,.none_int b t,.none_int b t⟩;all_goals (intros;simp_all)
  |str b=>rw[rep_str] at ry;subst ry;obtain⟨t,q⟩:=(show ∃t,u2=Value.str b t from r2);subst q;rw[D.eq];exact⟨.none_str b t,.none_str b t,.none_str b t⟩;all_goals (intros;simp_all)
  |tup es =>
   obtain⟨p,xs,rfl,hp,hr⟩:=Z2 ry
   cases (show u2=Value.ref p from r2)
   obtain⟨its,_,ht,_⟩:=I.tuple hp
   rw[D.eq]
   exact⟨.none_tuple ht hu',.none_tuple ht hu',.none_tuple ht hu'⟩
   all_goals (intros;simp_all)
  |lst es =>
   obtain⟨p,xs,rfl,hp,hr⟩:=rep_lst.mp ry
   cases (show u2=Value.ref p from r2)
   obtain⟨its,_,ht,_⟩:=I.list hp
   rw[D.eq]
   exact⟨.none_list ht.isList hu',.none_list ht.isList hu',.none_list ht.isList hu'⟩
   all_goals (intros;simp_all)
 |.bl a,y,A,v,w,u1,u2,hu,rx,ry,r1,r2=>by
  rw[rep_bl] at rx;subst rx
  have r1:u1=Value.bool a:=r1
  subst r1
  have hu':A.units<cLine:=by lia
  cases y with
  |non=>rw[rep_non] at ry;subst ry;cases (show u2=Value.none from r2);rw[D.eq];exact⟨.bool_none a,.bool_none a,.bool_none a⟩;all_goals (intros;simp_all)
  |bl b=>rw[rep_bl] at ry;subst ry;cases (show u2=Value.bool b from r2);rw[D.eq];exact⟨.bool_bool a b,.bool_bool a b,.bool_bool a b⟩
  |int b=>rw[rep_int] at ry;subst ry;obtain⟨t,q⟩:=(show ∃t,u2=Value.int b t from r2);subst q;rw[D.eq];exact⟨.bool_int a b t,.bool_int a b t,.bool_int a b t⟩
  |str b=>rw[rep_str] at ry;subst ry;obtain⟨t,q⟩:=(show ∃t,u2=Value.str b t from r2);subst q;rw[D.eq];exact⟨.bool_str a b t,.bool_str a b t,.bool_str a b t⟩;all_goals (intros;simp_all)
  |tup es =>
   obtain⟨p,xs,rfl,hp,hr⟩:=Z2 ry
   cases (show u2=Value.ref p from r2)
   obtain⟨its,_,ht,_⟩:=I.tuple hp
   rw[D.eq]
   exact⟨.bool_tuple a ht hu',.bool_tuple a ht hu',.bool_tuple a ht hu'⟩
   all_goals (intros;simp_all)
  |lst es =>
   obtain⟨p,xs,rfl,hp,hr⟩:=rep_lst.mp ry
   cases (show u2=Value.ref p from r2)
   obtain⟨its,_,ht,_⟩:=I.list hp
   rw[D.eq]
   exact⟨.bool_list a ht.isList hu',.bool_list a ht.isList hu',.bool_list a ht.isList hu'⟩
   all_goals (intros;simp_all)
 |.int a,y,A,v,w,u1,u2,hu,rx,ry,r1,r2=>by
  rw[rep_int] at rx;subst rx
  obtain⟨t1,q1⟩:=(show ∃t,u1=Value.int a t from r1)
  subst q1
  have hu':A.units<cLine:=by lia
  cases y with
  |non=>rw[rep_non] at ry;subst ry;cases (show u2=Value.none from r2);rw[D.eq];exact⟨.int_none a t1,.int_none a t1,.int_none a t1⟩;all_goals (intros;simp_all)
  |bl b=>rw[rep_bl] at ry;subst ry;cases (show u2=Value.bool b from r2);rw[D.eq];exact⟨.int_bool a t1 b,.int_bool a t1 b,.int_bool a t1 b⟩
  |int b=>rw[rep_int] at ry;subst ry;obtain⟨t,q⟩:=(show ∃t,u2=Value.int b t from r2);subst q;rw[D.eq];exact⟨.int_int a t1 b t,.int_int a t1 b t,.int_int a t1 b t⟩
  |str b=>rw[rep_str] at ry;subst ry;obtain⟨t,q⟩:=(show ∃t,u2=Value.str b t from r2);subst q;rw[D.eq];exact⟨.int_str a t1 b t,.int_str a t1 b t,.int_str a t1 b t⟩;all_goals (intros;simp_all)
  |tup es =>
   obtain⟨p,xs,rfl,hp,hr⟩:=Z2 ry
   cases (show u2=Value.ref p from r2)
   obtain⟨its,_,ht,_⟩:=I.tuple hp
   rw[D.eq]
   exact⟨.int_tuple a t1 ht hu',.int_tuple a t1 ht hu',.int_tuple a t1 ht hu'⟩
   all_goals (intros;simp_all)
  |lst es =>
   obtain⟨p,xs,rfl,hp,hr⟩:=rep_lst.mp ry
   cases (show u2=Value.ref p from r2)
   obtain⟨its,_,ht,_⟩:=I.list hp
   rw[D.eq]
   exact⟨.int_list a t1 ht.isList hu',.int_list a t1 ht.isList hu',.int_list a t1 ht.isList hu'⟩
   all_goals (intros;simp_all)
 |.str a,y,A,v,w,u1,u2,hu,rx,ry,r1,r2=>by
  rw[rep_str] at rx;subst rx
  obtain⟨t1,q1⟩:=(show ∃t,u1=Value.str a t from r1)
  subst q1
  have hu':A.units<cLine:=by lia
  cases y with
  |non=>rw[rep_non] at ry;subst ry;cases (show u2=Value.none from r2);rw[D.eq];exact⟨.str_none a t1,.str_none a t1,.str_none a t1⟩;all_goals (intros;simp_all)
  |bl b=>rw[rep_bl] at ry;subst ry;cases (show u2=Value.bool b from r2);rw[D.eq];exact⟨.str_bool a t1 b,.str_bool a t1 b,.str_bool a t1 b⟩;all_goals (intros;simp_all)
  |int b=>rw[rep_int] at ry;subst ry;obtain⟨t,q⟩:=(show ∃t,u2=Value.int b t from r2);subst q;rw[D.eq];exact⟨.str_int a t1 b t,.str_int a t1 b t,.str_int a t1 b t⟩;all_goals (intros;simp_all)
  |str b=>rw[rep_str] at ry;subst ry;obtain⟨t,q⟩:=(show ∃t,u2=Value.str b t from r2);subst q;rw[D.eq];exact⟨.str_str a t1 b t,.str_str a t1 b t,.str_str a t1 b t⟩
  |tup es =>
   obtain⟨p,xs,rfl,hp,hr⟩:=Z2 ry
   cases (show u2=Value.ref p from r2)
   obtain⟨its,_,ht,_⟩:=I.tuple hp
   rw[D.eq]
   exact⟨.str_tuple a t1 ht hu',.str_tuple a t1 ht hu',.str_tuple a t1 ht hu'⟩
   all_goals (intros;simp_all)
  |lst es =>
   obtain⟨p,xs,rfl,hp,hr⟩:=rep_lst.mp ry
   cases (show u2=Value.ref p from r2)
   obtain⟨its,_,ht,_⟩:=I.list hp
   rw[D.eq]
   exact⟨.str_list a t1 ht.isList hu',.str_list a t1 ht.isList hu',.str_list a t1 ht.isList hu'⟩
   all_goals (intros;simp_all)
 |.tup ds,y,A,v,w,u1,u2,hu,rx,ry,r1,r2=>by
  rw[D.dep] at hu
  have hu':A.units<cLine:=by lia
  obtain⟨p1,xs1,rfl,hp1,hr1⟩:=Z2 rx
  cases (show u1=Value.ref p1 from r1)
  obtain⟨its1,rv1,ht1,_⟩:=I.tuple hp1
  cases y with
  |non=>rw[rep_non] at ry;subst ry;cases (show u2=Value.none from r2);rw[D.eq];exact⟨.tuple_none ht1 hu',.tuple_none ht1 hu',.tuple_none ht1 hu'⟩;all_goals (intros;simp_all)
  |bl b=>rw[rep_bl] at ry;subst ry;cases (show u2=Value.bool b from r2);rw[D.eq];exact⟨.tuple_bool b ht1 hu',.tuple_bool b ht1 hu',.tuple_bool b ht1 hu'⟩;all_goals (intros;simp_all)
  |int b=>rw[rep_int] at ry;subst ry;obtain⟨t,q⟩:=(show ∃t,u2=Value.int b t from r2);subst q;rw[D.eq];exact⟨.tuple_int b t ht1 hu',.tuple_int b t ht1 hu',.tuple_int b t ht1 hu'⟩;all_goals (intros;simp_all)
  |str b=>rw[rep_str] at ry;subst ry;obtain⟨t,q⟩:=(show ∃t,u2=Value.str b t from r2);subst q;rw[D.eq];exact⟨.tuple_str b t ht1 hu',.tuple_str b t ht1 hu',.tuple_str b t ht1 hu'⟩;all_goals (intros;simp_all)
  |tup es =>
   obtain⟨p2,xs2,rfl,hp2,hr2⟩:=Z2 ry
   cases (show u2=Value.ref p2 from r2)
   obtain⟨its2,rv2,ht2,_⟩:=I.tuple hp2
   have l1:its1.toArray.size=ds.length:=by rw[List.size_toArray,<-rv1.length,<-hr1.length]
   have l2:its2.toArray.size=es.length:=by rw[List.size_toArray,<-rv2.length,<-hr2.length]
   have items:=cmps_at I ds es A.in1 xs1 xs2 its1 its2 (by show A.units+1+_<_;lia) hr1 hr2 rv1 rv2
   have he:∀j (h1:j<its1.toArray.size) (h2:j<its2.toArray.size),SeqAt.EqAt A.in1 s its1.toArray[j] its2.toArray[j] (D.eq (ds.getD j .non) (es.getD j .non)):=fun j h1 h2=>by
    refine items j _ _ _ _ ?_ ?_ ?_ ?_
    ·rw[List.getD_eq_getElem?_getD,List.getElem?_eq_getElem (by lia)];simp
    ·rw[List.getD_eq_getElem?_getD,List.getElem?_eq_getElem (by lia)];simp
    ·simp
    ·simp
   have rc:=SeqAt.RcAt.tuples ht1 ht2 hu' he
   have ne:=SeqAt.RcNeAt.tuples ht1 ht2 hu' he
   rw[l1,l2,<-D.eqs_all] at rc ne
   rw[D.eq]
   refine⟨rc,ne,?_⟩
   by_cases hpp:p1=p2
   ·subst hpp
    have:=rep_inj I _ _ _ rx ry
    cases this
    rw[D.eqs_refl]
    exact .same _
   ·exact .of_refs hpp rc
  |lst es =>
   obtain⟨p2,xs2,rfl,hp2,hr2⟩:=rep_lst.mp ry
   cases (show u2=Value.ref p2 from r2)
   obtain⟨its2,rv2,ht2,_⟩:=I.list hp2
   rw[D.eq]
   exact⟨.tuple_list ht1 ht2.isList hu',.tuple_list ht1 ht2.isList hu',.tuple_list ht1 ht2.isList hu'⟩
   all_goals (intros;simp_all)
 |.lst ds,y,A,v,w,u1,u2,hu,rx,ry,r1,r2=>by
  rw[D.dep] at hu
  have hu':A.units<cLine:=by lia
  obtain⟨p1,xs1,rfl,hp1,hr1⟩:=rep_lst.mp rx
  cases (show u1=Value.ref p1 from r1)
  obtain⟨its1,rv1,pl1,_⟩:=I.list hp1
  have ht1:=pl1.isList
  cases y with
  |non=>rw[rep_non] at ry;subst ry;cases (show u2=Value.none from r2);rw[D.eq];exact⟨.list_none ht1 hu',.list_none ht1 hu',.list_none ht1 hu'⟩;all_goals (intros;simp_all)
  |bl b=>rw[rep_bl] at ry;subst ry;cases (show u2=Value.bool b from r2);rw[D.eq];exact⟨.list_bool b ht1 hu',.list_bool b ht1 hu',.list_bool b ht1 hu'⟩;all_goals (intros;simp_all)
  |int b=>rw[rep_int] at ry;subst ry;obtain⟨t,q⟩:=(show ∃t,u2=Value.int b t from r2);subst q;rw[D.eq];exact⟨.list_int b t ht1 hu',.list_int b t ht1 hu',.list_int b t ht1 hu'⟩;all_goals (intros;simp_all)
  |str b=>rw[rep_str] at ry;subst ry;obtain⟨t,q⟩:=(show ∃t,u2=Value.str b t from r2);subst q;rw[D.eq];exact⟨.list_str b t ht1 hu',.list_str b t ht1 hu',.list_str b t ht1 hu'⟩;all_goals (intros;simp_all)
  |tup es =>
   obtain⟨p2,xs2,rfl,hp2,hr2⟩:=Z2 ry
   cases (show u2=Value.ref p2 from r2)
   obtain⟨its2,rv2,ht2,_⟩:=I.tuple hp2
   rw[D.eq]
   exact⟨.list_tuple ht1 ht2 hu',.list_tuple ht1 ht2 hu',.list_tuple ht1 ht2 hu'⟩
   all_goals (intros;simp_all)
  |lst es =>
   obtain⟨p2,xs2,rfl,hp2,hr2⟩:=rep_lst.mp ry
   cases (show u2=Value.ref p2 from r2)
   obtain⟨its2,rv2,pl2,_⟩:=I.list hp2
   have ht2:=pl2.isList
   have l1:its1.toArray.size=ds.length:=by rw[List.size_toArray,<-rv1.length,<-hr1.length]
   have l2:its2.toArray.size=es.length:=by rw[List.size_toArray,<-rv2.length,<-hr2.length]
   have items:=cmps_at I ds es A.in1 xs1 xs2 its1 its2 (by show A.units+1+_<_;lia) hr1 hr2 rv1 rv2
   have he:∀j (h1:j<its1.toArray.size) (h2:j<its2.toArray.size),SeqAt.EqAt A.in1 s its1.toArray[j] its2.toArray[j] (D.eq (ds.getD j .non) (es.getD j .non)):=fun j h1 h2=>by
    refine items j _ _ _ _ ?_ ?_ ?_ ?_
    ·rw[List.getD_eq_getElem?_getD,List.getElem?_eq_getElem (by lia)];simp
    ·rw[List.getD_eq_getElem?_getD,List.getElem?_eq_getElem (by lia)];simp
    ·simp
    ·simp
   have both:SeqAt.RcAt A s (.ref p1) (.ref p2) (D.eqs ds es)/\SeqAt.RcNeAt A s (.ref p1) (.ref p2) (!D.eqs ds es):=by
    by_cases hl:ds.length=es.length
    ·have rc:=SeqAt.RcAt.lists ht1 ht2 (by lia) hu' he
     have ne:=SeqAt.RcNeAt.lists ht1 ht2 (by lia) hu' he
     have e:D.eqs ds es=(List.range its1.toArray.size).all fun j=>D.eq (ds.getD j .non) (es.getD j .non):=by
      rw[D.eqs_all,l1,<-hl,Nat.min_self];simp
     rw[e]
     exact⟨rc,ne⟩
    ·have e:D.eqs ds es=false:=by rw[D.eqs_all];simp[hl]
     rw[e]
     have hs:(its1.toArray.size != its2.toArray.size)=true:=by rw[l1,l2];simpa using hl
     exact⟨.lists_lengths ht1 ht2 hs hu',.lists_lengths ht1 ht2 hs hu'⟩
   rw[D.eq]
   refine⟨both.1,both.2,?_⟩
   by_cases hpp:p1=p2
   ·subst hpp
    have:=rep_inj I _ _ _ rx ry
    cases this
    rw[D.eqs_refl]
    exact .same _
   ·exact .of_refs hpp both.1
theorem cmps_at (I:Inv X pins σ H s):∀(ds es:List D) (A:Around) (vs ws:List V) (us1 us2:List Value),A.units+D.deps ds<cLine->Reps X.K H ds vs->Reps X.K H es ws->Vals vs us1->Vals ws us2 ->
  ∀(j:Nat) (d e:D) (u1 u2:Value),ds[j]?=some d->es[j]?=some e->us1[j]?=some u1->us2[j]?=some u2->SeqAt.EqAt A s u1 u2 (D.eq d e)
 |[],_,_,_,_,_,_,_,_,_,_,_,j,_,_,_,_,h,_,_,_=>by simp at h
 |_::_,[],_,_,_,_,_,_,_,_,_,_,j,_,_,_,_,_,h,_,_=>by simp at h
 |d0::ds,e0::es,A,vs,ws,us1,us2,hu,r1,r2,v1,v2,j,d,e,u1,u2,h1,h2,h3,h4=>by
  rw[D.deps] at hu
  obtain⟨x,xr,rfl,a1,a2⟩:=reps_cons.mp r1
  obtain⟨y,yr,rfl,b1,b2⟩:=reps_cons.mp r2
  cases v1 with
  |cons c1 c2 =>
   cases v2 with
   |cons d1 d2 =>
    cases j with
    |zero =>
     simp at h1 h2 h3 h4
     subst h1 h2 h3 h4
     exact(cmp_at I d0 e0 A x y _ _ (by lia) a1 b1 c1 d1).eq
    |succ j =>
     simp at h1 h2 h3 h4
     exact cmps_at I ds es A xr yr _ _ (by lia) a2 b2 c2 d2 j d e u1 u2 h1 h2 h3 h4
end
end
section
variable {X:Cx} {E:XK} {pos:Pos} {a b:Expr}
def gEq (x y:D):M D:=if x.dep<=60 then .ok (.bl (D.eq x y)) else .bad
def gNe (x y:D):M D:=if x.dep<=60 then .ok (.bl (!D.eq x y)) else .bad
theorem Yi (hu:X.A.units+64<cLine):OpD X E (compareOp .Eq) gEq:=by
 refine⟨fun x y H Q=>∃dx dy,Rep X.K H dx x/\Rep X.K H dy y/\dx.dep<=60/\Q (.bl (D.eq dx dy)) H,fun pins s σ H x y v u Q I rx ry h=>?_,fun Hf H x y dx dy Q e rx ry q=>?_⟩
 ·obtain⟨dx,dy,h1,h2,h3,q⟩:=h
  exact(cmp_at I dx dy X.A x y v u (by lia) h1 h2 rx ry).rc _ _ _ _ ⟨.bl _,H,I,rfl,q⟩
 ·unfold gEq at q
  split at q
  ·rename_i hd
   exact⟨dx,dy,rx.mono e,ry.mono e,hd,Po.ret e q (rep_bl.mpr rfl)⟩
  ·exact q.elim
theorem od_ne (hu:X.A.units+64<cLine):OpD X E (compareOp .NotEq) gNe:=by
 refine⟨fun x y H Q=>∃dx dy,Rep X.K H dx x/\Rep X.K H dy y/\dx.dep<=60/\Q (.bl (!D.eq dx dy)) H,fun pins s σ H x y v u Q I rx ry h=>?_,fun Hf H x y dx dy Q e rx ry q=>?_⟩
 ·obtain⟨dx,dy,h1,h2,h3,q⟩:=h
  exact(cmp_at I dx dy X.A x y v u (by lia) h1 h2 rx ry).ne _ _ _ _ ⟨.bl _,H,I,rfl,q⟩
 ·unfold gNe at q
  split at q
  ·rename_i hd
   exact⟨dx,dy,rx.mono e,ry.mono e,hd,Po.ret e q (rep_bl.mpr rfl)⟩
  ·exact q.elim
end
def tyD:D->String
 |.non => "NoneType"
 |.bl _ => "bool"
 |.int _ => "int"
 |.str _ => "str"
 |.tup _ => "tuple"
 |.lst _ => "list"
def isD (T:String):D->Bool
 |.non=>false
 |.bl _=>T == "bool" || T == "int"
 |.int _=>T == "int"
 |.str _=>T == "str"
 |.tup _=>T == "tuple"
 |.lst _=>T == "list"
theorem kit_ok (K:PySem.W.Frag)(d:D){T:String} (hT:T∈["int", "bool", "tuple", "list", "str"]):PySem.W.kitOne K (.type (tyD d)) (.type T)=some (isD T d):=by
 simp only[List.mem_cons,List.not_mem_nil,or_false] at hT
 rcases hT with rfl|rfl|rfl|rfl|rfl<;>cases d<;>rfl
section
variable {X:Cx} {E:XK} {pos:Pos} {a b:Expr}
theorem call_isinst {T:String} (hT:T∈["int", "bool", "tuple", "list", "str"]):CallR X (.builtin "isinstance") (fun xs H Q=>∃x d,xs=[x,.ty T]/\Rep X.K H d x/\Q (.bl (isD T d)) H):=by
 intro pins s σ H xs us Q I r h
 obtain⟨x,d,rfl,hx,q⟩:=h
 obtain⟨u,w',rfl,r1,r2⟩:=vals2 r
 cases (show w'=Value.type T from r2)
 have e:=kit_ok X.K d hT
 have fin:∀tk,EP X pins σ Q (.bool (isD T d)) { s with toks:=tk }:=fun tk=>⟨.bl _,H,I.tok _,rfl,q⟩
 cases d with
 |non=>rw[rep_non] at hx;subst hx;cases (show u=Value.none from r1);exact PySem.W.kia_one PySem.W.kitx_none I.kIn True.intro e (fun z=>nomatch z) fin
 |bl y=>rw[rep_bl] at hx;subst hx;cases (show u=Value.bool y from r1);exact PySem.W.kia_one PySem.W.kitx_bool I.kIn True.intro e (fun z=>nomatch z) fin
 |int y=>rw[rep_int] at hx;subst hx;obtain⟨t,z⟩:=(show ∃t,u=Value.int y t from r1);subst z;exact PySem.W.kia_one PySem.W.kitx_int I.kIn True.intro e (fun z=>nomatch z) fin
 |str y=>rw[rep_str] at hx;subst hx;obtain⟨t,z⟩:=(show ∃t,u=Value.str y t from r1);subst z;exact PySem.W.kia_one PySem.W.kitx_str I.kIn True.intro e (fun z=>nomatch z) fin
 |tup ds =>
  obtain⟨p,ys,rfl,hp,hr⟩:=Z2 hx
  cases (show u=Value.ref p from r1)
  obtain⟨its,_,⟨o,h1,h2,_⟩,_⟩:=I.tuple hp
  exact PySem.W.kia_one PySem.W.kitx_tuple I.kIn ⟨o,h1,h2⟩ e (fun z=>nomatch z) fin
 |lst ds =>
  obtain⟨p,ys,rfl,hp,hr⟩:=rep_lst.mp hx
  cases (show u=Value.ref p from r1)
  obtain⟨its,_,pl,_⟩:=I.list hp
  obtain⟨o,h1,h2,_⟩:=pl.isList
  exact PySem.W.kia_one PySem.W.kitx_list I.kIn ⟨o,h1,h2⟩ e (fun z=>nomatch z) fin
def eIs (T:String)(f:DSt->M D)(sd:DSt):M D:=(f sd).bind fun d=>.ok (.bl (isD T d))
theorem pd_isinst (T:String){p p2:Pos}{f:DSt->M D} (hg:Gl X "isinstance") (hm:X.mg "isinstance" = none) (hmT:X.mg (Str.ofString T)=none) (hgT:Gl X (Str.ofString T)) (hvT:bootBuiltins (Str.ofString T)=some (.type T)) (h:PEd X E a f)
  (hT:T∈["int", "bool", "tuple", "list", "str"]:=by decide) (hnT:(Str.ofString T) ≠ "__name__" := by decide) (hdT:((Str.ofString T)==("__debug__" : Str))=false:=by decide)
  (he:starEach [a,.Name (Str.ofString T) p2] X.env=(false,eval a X.env)::starEach [.Name (Str.ofString T) p2] X.env:=by rfl) (he2:starEach [.Name (Str.ofString T) p2] X.env=(false,eval (.Name (Str.ofString T) p2) X.env)::starEach [] X.env:=by rfl)
  (hpl:(backTo pos (starEach [.Name (Str.ofString T) p2] X.env)).any (·.1)=false:=by rfl) (hv:bootBuiltins "isinstance" = some (.builtin "isinstance"):=by rfl) :
  PEd X E (.Call (.Name "isinstance" p) [a,.Name (Str.ofString T) p2] [] pos) (eIs T f):=by
 obtain⟨t,pt,qt⟩:=h
 refine⟨_,pe_callB (call_isinst hT) hg hm hv (Qp pt (Qp (pe_bltn (v:=.ty T) hgT hmT hvT rfl hnT hdT) Y7 he2) he) (by decide) (by decide) he hpl,fun H0 B Hf sd σ H Q sr h=>?_⟩
 refine qt H0 B Hf sd σ H _ sr (Po.bind h fun d v Hf1 H1 _ g1 rv h1=>?_)
 exact⟨v,d,rfl,Rep.mono g1.sub rv,Po.ret (R:=rV X.K) g1.sub h1 (rep_bl.mpr rfl)⟩
def boolsOf:List D->Option (List Bool)
 |[]=>some []
 |.bl b::r=>(boolsOf r).map (b::·)
 |_::_=>none
theorem boolsOf_reps {K:PySem.W.Frag}{H:Hp}:∀{ds:List D} {bs:List Bool} {xs:List V},boolsOf ds=some bs->Reps K H ds xs->xs=bs.map V.bl
 |[],bs,xs,e,r=>by
  rw[reps_nil.mp r]
  cases e
  rfl
 |.bl b::ds,bs,xs,e,r=>by
  obtain⟨x,t,rfl,h1,h2⟩:=reps_cons.mp r
  unfold boolsOf at e
  cases q:boolsOf ds with
  |none=>rw[q] at e;cases e
  |some cs =>
   rw[q] at e
   cases e
   rw[rep_bl.mp h1,boolsOf_reps q h2]
   rfl
 |.non::_,_,_,e,_=>by cases e
 |.int _::_,_,_,e,_=>by cases e
 |.str _::_,_,_,e,_=>by cases e
 |.tup _::_,_,_,e,_=>by cases e
 |.lst _::_,_,_,e,_=>by cases e
theorem vals_bl {bs:List Bool}:∀{us:List Value},Vals (bs.map V.bl) us->us=bs.map Value.bool:=by
 induction bs with
 |nil=>intro us r;cases r;rfl
 |cons b bs ih =>
  intro us r
  cases r with
  |cons r1 r2=>rw[ih r2];cases (show _=Value.bool b from r1);rfl
theorem range_all' (bs:List Bool):((List.range bs.length).all fun i=>(bs[i]?).getD true)=bs.all id:=by
 induction bs with
 |nil=>rfl
 |cons b bs ih =>
  rw[List.length_cons,List.range_succ_eq_map,List.all_cons,List.all_map,List.all_cons]
  have:(((fun i=>((b::bs)[i]?).getD true)∘Nat.succ):Nat->Bool)=fun i=>(bs[i]?).getD true:=by funext i;simp
  rw[this,ih]
  simp
theorem kept_it {s:Shared}{h':Heap}{o:Obj}(hk:∀b x,b ∉ [s.heap.objs.size]->(s.heap.push o).get? b=some x->h'.get? b=some x):∀b x,s.heap.get? b=some x->h'.get? b=some x :=
 fun b x e=>hk b x (fun hm=>by rw[List.mem_singleton.mp hm] at e;exact Nat.lt_irrefl _ (Heap.lt_size e)) (Heap.get?_push_of_some _ e)
theorem call_allB (hc:X.calm=true):CallR X (.builtin "all") (fun xs H Q=>∃(p:Addr) (bs:List Bool),xs=[.ref p]/\SqL X.K H p (bs.map V.bl)/\Q (.bl (bs.all id)) H):=by
 intro pins s σ H xs us Q I r h
 obtain⟨p,bs,rfl,hp,q⟩:=h
 obtain⟨u,rfl,rx⟩:=vals1 r
 cases rx
 obtain⟨its,rv,pl,_⟩:=I.list hp
 have hl:=pl.isList
 have ei:=vals_bl rv
 have hlt:p<s.heap.objs.size:=by obtain⟨_,e,_⟩:=hl;exact Heap.lt_size e
 refine call_all_walk (wpAny_pyIter_list hl ?_)
 refine⟨s.heap.objs.size,[s.heap.objs.size,p],[s.heap.objs.size],its.toArray.size,_,_,fun i=>(bs[i]?).getD true,rfl,Walks.list (A:=X.A.in1) (I.ok.hd hc) _ p (Nat.ne_of_lt hlt) its.toArray,
  ⟨⟨_,Heap.get?_push_size _ rfl,rfl,rfl⟩,hl.push _⟩,fun i v s' Q' E' hP hQ=>?_,fun h' tk hk=>?_⟩
 ·have hv:its[i]?=some v:=by simpa using hP
  rw[ei,List.getElem?_map] at hv
  cases eb:bs[i]? with
  |none=>rw[eb] at hv;cases hv
  |some b =>
   rw[eb] at hv
   cases hv
   simp only[eb,Option.getD_some] at hQ
   exact wpAny_truthy_bool hQ
 ·have e:((List.range its.toArray.size).all fun i=>(bs[i]?).getD true)=bs.all id:=by
   rw[List.size_toArray,ei,List.length_map];exact range_all' bs
  rw[e]
  exact⟨.bl _,H,I.kept (kept_it hk),rfl,q⟩
def bAll:List D->M D
 |[.lst ds]=>match boolsOf ds with
  |some bs=>.ok (.bl (bs.all id))
  |none=>.bad
 |_=>.bad
theorem cd_all (hc:X.calm=true):CallD X E (.builtin "all") bAll:=by
 refine⟨_,call_allB hc,fun Hf H xs ds Q e r q=>?_⟩
 unfold bAll at q
 split at q
 ·split at q
  ·rename_i bs hb
   obtain⟨x,rfl,h⟩:=reps1 r
   obtain⟨p,ys,rfl,hp,hr⟩:=rep_lst.mp h
   have:=boolsOf_reps hb hr
   subst this
   exact⟨p,bs,rfl,e.seq hp,Po.ret e q (rep_bl.mpr rfl)⟩
  ·exact q.elim
 ·exact q.elim
theorem op_catS:OpR X (binaryOp .Add) (fun x y H Q=>∃l b xs zs,x=.ref l/\y=.ref b/\SqL X.K H l xs/\SqL X.K H b zs/\xs.length+zs.length<=sizeLine/\∀p,H p=none->Q (.ref p) (upd H p (.lst (xs++zs)))):=by
 intro pins s σ H x y v u Q I rx ry h
 obtain⟨l,b,xs,zs,rfl,rfl,hH,hB,hz,q⟩:=h
 cases rx
 cases ry
 obtain⟨its,r,pl,z⟩:=I.list hH
 obtain⟨its2,r2,pl2,z2⟩:=I.list hB
 have l1:=r.length
 have l2:=r2.length
 obtain⟨⟨cls,dd,data,sl⟩,ho,hc,n,hd⟩:=pl.isList
 obtain⟨⟨cls2,dd2,data2,sl2⟩,ho2,hc2,n2,hd2⟩:=pl2.isList
 simp only at hc hd hc2 hd2
 subst hc hd hc2 hd2
 have e:its.toArray++its2.toArray=(its++its2).toArray:=by simp
 refine concat_meets ⟨_,ho,rfl⟩ ⟨_,ho2,rfl⟩ noFill_list_add seq_list_add PySem.F.slot_list_add PySem.F.entry_list_add (PySem.F.args_list_add_2 _ _) (list_addW l b its.toArray its2.toArray n n2 dd dd2 sl sl2 (by rw[List.size_toArray,List.size_toArray];lia)) ⟨ho,ho2,?_⟩
 rw[e]
 exact⟨.ref _,_,I.lnew (t':=s.toks) (r.append r2) (by rw[List.length_append];lia),rfl,q _ I.fresh⟩
def Zz:D->D->M D
 |.int i,.int j=>.ok (.int (i+j))
 |.lst xs,.lst ys=>if few (xs++ys) then .ok (.lst (xs++ys)) else .bad
 |.tup (x::xs),.tup ys=>if few (x::xs++ys) then .ok (.tup (x::xs++ys)) else .bad
 |.str i,.str j=>if i.length+j.length<=sizeLine then .ok (.str (i++j)) else .bad
 |_,_=>.bad
theorem Qg:OpD X E (binaryOp .Add) Zz:=by
 refine⟨_,op_add.or (op_catS.or (op_catT.or op_add_str)),fun Hf H x y dx dy Q e rx ry q=>?_⟩
 unfold Zz at q
 split at q
 ·rename_i i j
  exact .inl ⟨i,j,rep_int.mp rx,rep_int.mp ry,Po.ret e q (rep_int.mpr rfl)⟩
 ·rename_i xs ys
  split at q
  ·rename_i hf
   obtain⟨p1,us,rfl,h1,r1⟩:=rep_lst.mp rx
   obtain⟨p2,ws,rfl,h2,r2⟩:=rep_lst.mp ry
   have hl:=few_line hf (r1.append r2)
   rw[List.length_append] at hl
   exact .inr (.inl ⟨p1,p2,us,ws,rfl,rfl,e.seq h1,e.seq h2,hl,fun p hp=>q _ _ _ (Gr.alloc e hp _) (Gr.lst e hp (r1.append r2))⟩)
  ·exact q.elim
 ·rename_i x0 xs ys
  split at q
  ·rename_i hf
   obtain⟨p1,us,rfl,h1,r1⟩:=Z2 rx
   obtain⟨p2,ws,rfl,h2,r2⟩:=Z2 ry
   have hl:=few_line hf (r1.append r2)
   rw[List.length_append] at hl
   have hne:us≠[]:=fun z=>by
    have:=r1.length
    rw[z] at this
    cases this
   refine .inr (.inr (.inl ⟨p1,p2,us,ws,rfl,rfl,Same.seqT e h1,Same.seqT e h2,hne,hl,fun z=>?_,fun _ p hp=>q _ _ _ (Gr.alloc e hp _) (Gr.tup e hp (r1.append r2))⟩))
   subst z
   have:ys=[]:=List.length_eq_zero_iff.mp r2.length
   subst this
   rw[List.append_nil] at q
   exact Po.ret e q rx
  ·exact q.elim
 ·rename_i i j
  split at q
  ·rename_i hl
   exact .inr (.inr (.inr ⟨i,j,rep_str.mp rx,rep_str.mp ry,hl,Po.ret e q (rep_str.mpr rfl)⟩))
  ·exact q.elim
 ·exact q.elim
def Yt:D->D->M D:=gMul
theorem od_times:OpD X E (binaryOp .Mult) Yt:=od_mul
def cutD (ds:List D)(lo hi:Option Int):List D:=(ds.drop (HT.sIx ds.length 0 lo)).take (HT.sIx ds.length ds.length hi - HT.sIx ds.length 0 lo)
theorem cut_reps {K:PySem.W.Frag}{H:Hp}{ds:List D}{xs:List V}(r:Reps K H ds xs)(lo hi:Option Int):Reps K H (cutD ds lo hi) (cutV xs lo hi):=by
 unfold cutD cutV
 rw[<-r.length]
 exact(r.drop _).take _
def gSl:D->Option Int->Option Int->M D
 |.lst ds,lo,hi=>.ok (.lst (cutD ds lo hi))
 |.tup ds,lo,hi=>if HT.sIx ds.length 0 lo=0/\HT.sIx ds.length ds.length hi=ds.length then .bad else .ok (.tup (cutD ds lo hi))
 |_,_,_=>.bad
def Qh (_:DSt):M (Option Int):=.ok none
def Qi (f:DSt->M D)(sd:DSt):M (Option Int):=(f sd).bind fun d=>match d with
 |.int i=>.ok (some i)
 |_=>.bad
theorem Ql:POd X E none Qh:=⟨_,po_none,fun _ _ _ _ _ _ _ sr h=>Po.ret (R:=rQ) sr.sub h rfl⟩
theorem Qm {e:Expr}{f:DSt->M D}(h:PEd X E e f):POd X E (some e) (Qi f):=by
 obtain⟨t,p,q⟩:=h
 refine⟨_,po_some p,fun H0 B Hf sd σ H Q sr h=>?_⟩
 refine q H0 B Hf sd σ H _ sr (Po.bind h fun d v Hf1 H1 _ g1 rv h1=>?_)
 split at h1
 ·exact⟨_,rep_int.mp rv,Po.ret (R:=rQ) g1.sub h1 rfl⟩
 ·exact h1.elim
def eSl (f:DSt->M D)(lo hi:DSt->M (Option Int))(sd:DSt):M D:=(f sd).bind fun d=>(lo sd).bind fun l=>(hi sd).bind fun h=>gSl d l h
theorem pd_slice {e:Expr}{lo hi:Option Expr}{p2:Pos}{f:DSt->M D}{fl fh:DSt->M (Option Int)}(h:PEd X E e f)(hl:POd X E lo fl)(hh:POd X E hi fh):PEd X E (.Subscript e (.Slice lo hi none p2) pos) (eSl f fl fh):=by
 obtain⟨t,p,q⟩:=h
 obtain⟨tl,pl,ql⟩:=hl
 obtain⟨th,ph,qh⟩:=hh
 refine⟨_,pe_slice (sl_list.or sl_tup) p pl ph,fun H0 B Hf sd σ H Q sr h=>?_⟩
 refine q H0 B Hf sd σ H _ sr (Po.bind h fun d v Hf1 H1 _ g1 rv h1=>?_)
 refine ql H0 B Hf1 sd σ H1 _ (sr.gr g1) (Po.bind h1 fun l l' Hf2 H2 _ g2 el h2=>?_)
 have el:l=l':=el
 subst el
 refine qh H0 B Hf2 sd σ H2 _ ((sr.gr g1).gr g2) (Po.bind h2 fun u u' Hf3 H3 _ g3 eu h3=>?_)
 have eu:u=u':=eu
 subst eu
 have rv3:=(Rep.mono g3.fz (Rep.mono g2.fz rv))
 unfold gSl at h3
 split at h3
 ·rename_i ds
  obtain⟨a,xs,rfl,ha,hr⟩:=rep_lst.mp rv3
  exact .inl ⟨a,xs,rfl,g3.sub.seq ha,fun p hp=>h3 _ _ _ (Gr.alloc g3.sub hp _) (Gr.lst g3.sub hp (cut_reps hr _ _))⟩
 ·rename_i ds
  split at h3
  ·exact h3.elim
  ·rename_i hw
   obtain⟨a,xs,rfl,ha,hr⟩:=Z2 rv3
   exact .inr ⟨a,xs,rfl,Same.seqT g3.sub ha,by rw[<-hr.length];exact hw,fun p hp=>h3 _ _ _ (Gr.alloc g3.sub hp _) (Gr.tup g3.sub hp (cut_reps hr _ _))⟩
 ·exact h3.elim
def ItOk (K:PySem.W.Frag)(Hf _H:Hp)(ds:List D)(J:It):Prop:=∀(i:Nat) (Hf1 H1:Hp),Same Hf Hf1->Same Hf1 H1->match ds[i]? with
 |some d=>J.go i H1/\∀x H2,J.yld i H1 x H2->∃Hf2,Gr Hf1 H1 Hf2 H2/\Rep K Hf2 d x
 |none=>J.stop i H1
def PId (X:Cx)(E:XK)(tg iter:Expr)(fi:DSt->M (List D)):Prop :=
 ∃wi:TI,PI X tg iter wi/\∀(H0:Hp) (B:Addr->Prop) (Hf:Hp) (sd:DSt) (σ:L2.St) (H:Hp) (R:It->Hp->Prop),SR X.K H0 B Hf sd σ H->Po X.K E (ItOk X.K) Hf H (fi sd) R->wi σ H R
theorem itl_ok {K:PySem.W.Frag}{Hf H:Hp}{a:Addr}{xs:List V}{ds:List D}(h:SqL K Hf a xs)(r:Reps K Hf ds xs):ItOk K Hf H ds (Itl K a):=by
 intro i Hf1 H1 e1 e2
 have h2:=e2.seq (e1.seq h)
 cases q:ds[i]? with
 |some d =>
  obtain⟨x,ex,rx⟩:=r.get q
  refine⟨⟨xs,x,h2,ex⟩,fun y H2 hy=>?_⟩
  obtain⟨e,hy⟩:=hy
  subst e
  have ey:=hy xs h2
  rw[ex] at ey
  cases ey
  exact⟨Hf1,Gr.refl e2,rx.mono e1⟩
 |none =>
  refine⟨xs,h2,?_⟩
  have:=r.none_of q
  exact List.getElem?_eq_none_iff.mp this
theorem itt_ok {K:PySem.W.Frag}{Hf H:Hp}{a:Addr}{xs:List V}{ds:List D}(h:SqT K Hf a xs)(r:Reps K Hf ds xs):ItOk K Hf H ds (Itt K a):=by
 intro i Hf1 H1 e1 e2
 have h2:=Same.seqT e2 (Same.seqT e1 h)
 cases q:ds[i]? with
 |some d =>
  obtain⟨x,ex,rx⟩:=r.get q
  refine⟨⟨xs,x,h2,ex⟩,fun y H2 hy=>?_⟩
  obtain⟨e,hy⟩:=hy
  subst e
  have ey:=hy xs h2
  rw[ex] at ey
  cases ey
  exact⟨Hf1,Gr.refl e2,rx.mono e1⟩
 |none =>
  refine⟨xs,h2,?_⟩
  have:=r.none_of q
  exact List.getElem?_eq_none_iff.mp this
def rangeD (lo:Int)(n:Nat):List D:=(List.range n).map fun k=>.int (lo+(k:Nat))
theorem itr_ok {K:PySem.W.Frag}{Hf H:Hp}(lo:Int)(n:Nat):ItOk K Hf H (rangeD lo n) (Itr lo n):=by
 intro i Hf1 H1 e1 e2
 unfold rangeD
 rw[List.getElem?_map]
 by_cases hi:i<n
 ·rw[List.getElem?_range hi]
  refine⟨hi,fun y H2 hy=>?_⟩
  obtain⟨e,hy⟩:=hy
  subst e
  exact⟨Hf1,Gr.refl e2,rep_int.mpr hy⟩
 ·rw[List.getElem?_eq_none (by simpa using hi)]
  exact Nat.le_of_not_lt hi
def iSeq (f:DSt->M D)(sd:DSt):M (List D):=(f sd).bind fun d=>match d with
 |.lst ds=>.ok ds
 |.tup ds=>.ok ds
 |_=>.bad
theorem pi_seq {tg l:Expr}{tl:TE}(hl:PE X l tl):PI X tg l (fun σ H R=>tl σ H fun x H1=>(∃a,x=.ref a/\(∃xs,SqL X.K H1 a xs)/\R (Itl X.K a) H1)\/∃a,x=.ref a/\(∃xs,SqT X.K H1 a xs)/\R (Itt X.K a) H1):=by
 intro pins s σ H R I h
 refine thn (hl pins s σ H _ I h) fun v s1 ⟨x,H1,I1,r1,q1⟩=>?_
 rcases q1 with⟨a,e,⟨xs,hq⟩,q⟩|⟨a,e,⟨xs,hq⟩,q⟩
 ·subst e
  cases r1
  obtain⟨its,rv,p,hz⟩:=I1.list hq
  refine wpAny_pyIter_list p.isList ?_
  refine⟨s1.heap.objs.size,[s1.heap.objs.size],_,_,H1,rfl,I1.kept (t':=s1.toks) fun b o e=>Heap.get?_push_of_some _ e,turn_list a _,⟨_,Heap.get?_push_size _ rfl,rfl,rfl⟩,fun b hb=>?_,q⟩
  have e:b=s1.heap.objs.size:=by simpa using hb
  subst e
  exact I1.fpOk (Nat.le_refl _) (I1.hok.fresh (Nat.le_refl _))
 ·subst e
  cases r1
  obtain⟨its,rv,p,hz⟩:=I1.tuple hq
  refine wpAny_pyIter_tuple (show s1.heap.IsTuple a its.toArray from p) ?_
  refine⟨s1.heap.objs.size,[s1.heap.objs.size],_,_,H1,rfl,I1.kept (t':=s1.toks) fun b o e=>Heap.get?_push_of_some _ e,turn_tuple a _,⟨_,Heap.get?_push_size _ rfl,rfl,rfl⟩,fun b hb=>?_,q⟩
  have e:b=s1.heap.objs.size:=by simpa using hb
  subst e
  exact I1.fpOk (Nat.le_refl _) (I1.hok.fresh (Nat.le_refl _))
theorem pid_seq {tg l:Expr}{f:DSt->M D}(h:PEd X E l f):PId X E tg l (iSeq f):=by
 obtain⟨t,p,q⟩:=h
 refine⟨_,pi_seq p,fun H0 B Hf sd σ H R sr h=>?_⟩
 refine q H0 B Hf sd σ H _ sr (Po.bind h fun d v Hf1 H1 _ g1 rv h1=>?_)
 split at h1
 ·rename_i ds
  obtain⟨a,xs,rfl,ha,hr⟩:=rep_lst.mp rv
  exact .inl ⟨a,rfl,⟨xs,g1.sub.seq ha⟩,Po.ret (R:=ItOk X.K) g1.sub h1 (itl_ok ha hr)⟩
 ·rename_i ds
  obtain⟨a,xs,rfl,ha,hr⟩:=Z2 rv
  exact .inr ⟨a,rfl,⟨xs,Same.seqT g1.sub ha⟩,Po.ret (R:=ItOk X.K) g1.sub h1 (itt_ok ha hr)⟩
 ·exact h1.elim
def iRange1 (fs:DSt->M (List D))(sd:DSt):M (List D):=(fs sd).bind fun ds=>match ds with
 |[.int j]=>if -1000000<=j/\j<=1000000 then .ok (rangeD 0 j.toNat) else .bad
 |_=>.bad
theorem pid_range1 {tg a:Expr}{p:Pos}{fs:DSt->M (List D)} (hg:Gl X "range") (hm:X.mg "range" = none) (h:PAd X E [a] fs) (hs:starEach [a] X.env=[(false,eval a X.env)]:=by rfl):PId X E tg (.Call (.Name "range" p) [a] [] pos) (iRange1 fs):=by
 obtain⟨t,pt,q⟩:=h
 refine⟨_,pi_range1 hg hm pt hs,fun H0 B Hf sd σ H R sr h=>?_⟩
 refine q H0 B Hf sd σ H _ sr (Po.bind h fun ds vs Hf1 H1 _ g1 rs h1=>?_)
 split at h1
 ·split at h1
  ·rename_i hj
   obtain⟨v,rfl,rv⟩:=reps1 rs
   rw[rep_int.mp rv]
   exact⟨_,rfl,by lia,by lia,Po.ret (R:=ItOk X.K) g1.sub h1 (itr_ok 0 _)⟩
  ·exact h1.elim
 ·exact h1.elim
def loopD (g:D->DSt->M DSt)(f:DSt->M O):List D->DSt->M O
 |[],sd=>.ok (.nx sd)
 |d::r,sd=>match g d sd with
  |.ok sd1=>(f sd1).bind fun o=>match o with
   |.nx sd2=>loopD g f r sd2
   |.ct sd2=>loopD g f r sd2
   |.bk sd2=>.ok (.nx sd2)
   |.rt s=>.ok (.rt s)
  |_=>.bad
def sFor (fi:DSt->M (List D))(g:D->DSt->M DSt)(f:DSt->M O)(sd:DSt):M O:=(fi sd).bind fun ds=>loopD g f ds sd
theorem psd_for {tg iter:Expr}{body:List Stmt}{fi:DSt->M (List D)}{g:D->DSt->M DSt}{f:DSt->M O}(hp:PassesOwn (model X.prog X.w) X.A X.env X.xe)(hc:X.calm=true)(hi:PId X E tg iter fi)(hg:PGd X tg g)(hb:PSsd X E body f)(hs:∀x,foldedSetIterable iter X.env x=pure x:=by intro _;rfl):PSd X E (.For tg iter body [] pos) (sFor fi g f):=by
 obtain⟨wi,pw,qw⟩:=hi
 obtain⟨tg',pg,qg⟩:=hg
 obtain⟨tb,pb,qb⟩:=hb
 refine⟨_,ps_for hp hc pw pg pb hs,fun H0 B Hf sd σ H D sr h=>?_⟩
 refine qw H0 B Hf sd σ H _ sr (PoS.bind sr h fun ds J Hf1 H1 _ g1 sr1 J1 h1=>?_)
 refine⟨fun i m σ' H'=>m=ds.length - i/\∃Hf' sd',Same Hf1 Hf'/\SR X.K H0 B Hf' sd' σ' H'/\PoS X.K E H0 B Hf' (loopD g f (ds.drop i) sd') D,⟨ds.length,by simp,Hf1,sd,Same.refl _,sr1,by simpa using h1⟩,?_⟩
 rintro i m σ2 H2 ⟨rfl,Hf2,sd2,e2,sr2,h2⟩
 have jj:=J1 i Hf2 H2 e2 sr2.sub
 cases q:ds[i]? with
 |none =>
  rw[q] at jj
  refine .inl ⟨jj,?_⟩
  rw[List.drop_eq_nil_of_le (List.getElem?_eq_none_iff.mp q)] at h2
  exact h2 σ2 Hf2 H2 (Same.refl _) sr2
 |some d =>
  rw[q] at jj
  obtain⟨go,yl⟩:=jj
  have hlt:i<ds.length:=(List.getElem?_eq_some_iff.mp q).1
  have hd:ds.drop i=d::ds.drop (i+1):=by
   rw[List.drop_eq_getElem_cons hlt]
   congr 1
   exact(List.getElem?_eq_some_iff.mp q).2
  rw[hd] at h2
  refine .inr ⟨go,fun σ' H'=>∃Hf' sd',Same Hf1 Hf'/\SR X.K H0 B Hf' sd' σ' H'/\PoS X.K E H0 B Hf' (loopD g f (ds.drop (i+1)) sd') D,fun σ' H' w=>⟨ds.length - (i+1),by lia,rfl,w⟩,fun x H3 y3=>?_⟩
  obtain⟨Hf3,g3,rx⟩:=yl x H3 y3
  have sr3:=sr2.gr g3
  unfold loopD at h2
  split at h2
  ·rename_i sd3 eg
   refine qg H0 B Hf3 sd2 σ2 H3 x d sd3 _ sr3 rx eg fun σ4 sr4=>?_
   refine qb H0 B Hf3 sd3 σ4 H3 _ sr4 ?_
   have h2:=PoS.weak g3.fz h2
   cases ef:f sd3 with
   |ok o =>
    rw[ef] at h2
    cases o with
    |nx sd'=>exact fun σ' Hf' H' e' sr'=>⟨Hf',sd',e2.trans (g3.fz.trans e'),sr',PoS.weak e' h2⟩
    |ct sd'=>exact fun σ' Hf' H' e' sr'=>⟨Hf',sd',e2.trans (g3.fz.trans e'),sr',PoS.weak e' h2⟩
    |bk sd'=>exact h2
    |rt s=>exact h2
   |ex x=>rw[ef] at h2;exact h2
   |bad=>rw[ef] at h2;exact h2
  ·exact h2.elim
end
theorem codeAny_comp_any {prog:Program}{w:World}{A:Around}{R:Result->Shared->Prop}{s:Shared}{elt target iter:Expr}{scope:Scope}{pos:Pos}{it acc:Value}{env:Env}(I:Nat->Shared->Prop)
  (turn:∀n s,I n s->wpAny (model prog w) A (pyNext it) (fun r s₁=>match r with
   |none=>R (.ok .next) s₁
   |some v=>wpAny (model prog w) A (letOwnedTupleGo target it v) (fun _ s₂=>wpAny (model prog w) A (assign target env v) (fun _ s₃=>wpAny (model prog w) A (eval elt env) (fun x s₄ =>
     wpAny (model prog w) A (call (.builtin "list.append") [acc,x]) (fun _ s₅=>∃m,m<n/\I m s₅) (fun _ _=>False) s₄) (fun _ _=>False) s₃) (fun _ _=>False) s₂) (fun _ _=>False) s₁) (fun _ _=>False) s)
  (n:Nat) (h:I n s) :
  codeAny (model prog w) A (.compLoop (.ListComp elt [⟨target,iter,[],0⟩] scope pos) 0 it acc env) R s:=by
 refine codeAny_loop rfl I (fun n s hI=>?_) n h
 show wpAny _ A ((compTurn (.ListComp elt [⟨target,iter,[],0⟩] scope pos) 0 it acc env).onRaise (fun x=>do noteFrame x env;theTreesLotGoes x)) _ _ s
 refine wpAny_noted ?_
 rw[compTurn_list]
 refine wpAny_bind (wpAny_standAt (wpAny_bind (wpAny_mono (turn n s hI) (fun r s₁ h₁=>?_) fun _ _ h'=>h'.elim)))
 cases r with
 |none=>exact wpAny_pure h₁
 |some v =>
  refine wpAny_bind (wpAny_mono h₁ (fun _ s₂ h₂=>?_) fun _ _ h'=>h'.elim)
  refine wpAny_bind (wpAny_mono h₂ (fun _ s₃ h₃=>?_) fun _ _ h'=>h'.elim)
  refine wpAny_bind (wpAny_tests_nil ?_)
  exact wpAny_bind (wpAny_bind (wpAny_mono h₃ (fun x s₄ h₄=>wpAny_bind (wpAny_mono h₄ (fun _ s₅ h₅=>wpAny_pure (wpAny_pure ⟨rfl,h₅⟩)) fun _ _ h'=>h'.elim)) fun _ _ h'=>h'.elim))
def compCx (X:Cx)(Nc:List Str)(scope:Scope)(cl:List (Str×Addr))(s3:Shared)(H3:Hp)(C:Addr)(ex:List Addr):Cx :=
 { X with N:=Nc,s₀:=s3,H₀:=H3,env:=compEnvC scope cl C X.env,outer:=X.stack,stack:=X.stack,ex:=ex,fn:=fun _=>false,pn:=[],xe:=fun _ _=>False }
structure CapOk (X:Cx) (Nc:List Str) (n0:Nat) (caps:List Nat) (scope:Scope) (cl:List (Str×Addr)):Prop where
 sub:∀y c,cl.lookup y=some c->X.env.cells.lookup y=some c
 has:∀y,(relabel scope X.env).names.lookup y=some .cell\/(relabel scope X.env).names.lookup y=some .free->∃c,cl.lookup y=some c
 cap:∀(i j:Nat) (x:Str),Nc[n0+i]?=some x->caps[i]?=some j->X.N[j]?=some x/\X.env.scope.names.lookup x=some .cell/\(relabel scope X.env).names.lookup x=some .cell
 len:Nc.length=n0+caps.length
def Qe:Obj:={ cls:=.type "list", dict:=none,data:=.seq ([]:List Value).toArray }
section
variable {X:Cx} {pins:List (Addr×Obj)} {σ:L2.St} {H2:Hp} {s2:Shared} {Nc:List Str} {n0:Nat} {caps:List Nat} {scope:Scope} {cl:List (Str×Addr)} {fp:List Addr}
theorem comp_inv (I2:Inv X pins σ H2 s2)(f2:∀b∈fp,FpOk X pins H2 b)(hold:∀b∈fp,∃o,s2.heap.get? b=some o)(hkind:scope.kind=.function)(cap:CapOk X Nc n0 caps scope cl){h1:Heap}{m0:Str->Option Value}{tk:Nat}(hns:h1.Ns (s2.heap.objs.size+1) m0)(hold1:∀b o,s2.heap.get? b=some o->h1.get? b=some o)(hD:h1.get? s2.heap.objs.size=some Qe) :
  Inv (compCx X Nc scope cl { s2 with heap:=s2.heap.push Qe } (upd H2 s2.heap.objs.size (.lst [])) (s2.heap.objs.size+1) fp) [] (List.replicate n0 none++caps.map fun j=>(σ[j]?).join) (upd H2 s2.heap.objs.size (.lst [])) { s2 with heap:=h1,toks:=tk }:=by
 have fresh:H2 s2.heap.objs.size=none:=I2.hok.fresh (Nat.le_refl _)
 have freshC:H2 (s2.heap.objs.size+1)=none:=I2.hok.fresh (Nat.le_succ _)
 have sz:(s2.heap.push Qe).objs.size=s2.heap.objs.size+1:=Heap.size_push _ _
 have lt:∀{b:Addr} {o:Obj},s2.heap.get? b=some o->b<s2.heap.objs.size:=fun e=>Heap.lt_size e
 have ne0:∀{b:Addr} {o:Obj},s2.heap.get? b=some o->b≠s2.heap.objs.size:=fun e=>Nat.ne_of_lt (lt e)
 have clt:∀y c,cl.lookup y=some c->c<s2.heap.objs.size:=fun y c e=>by
  obtain⟨v,q⟩:=I2.cell y c (cap.sub y c e)
  exact q.lt
 have frl:∀b∈frs X.stack,b<s2.heap.objs.size:=fun b hb=>by
  obtain⟨_,o,ho,_⟩:=I2.stack.mem hb
  exact lt ho
 have kp:∀b o,(s2.heap.push Qe).get? b=some o->h1.get? b=some o:=fun b o e=>by
  by_cases hb:b=s2.heap.objs.size
  ·subst hb
   rw[Heap.get?_push_size _ rfl] at e
   cases e
   exact hD
  ·rw[Heap.get?_push_ne _ _ _ hb] at e
   exact hold1 b o e
 have hok3:HOk X.prog X.w (upd H2 s2.heap.objs.size (.lst [])) h1:=I2.hok.laid hold1 (Nat.le_refl _) ⟨Nat.zero_le _,[],0,.nil,hD⟩
 refine⟨⟨I2.ok.mod,?_,I2.ok.glob,I2.ok.blt,?_,?_,?_,?_,I2.ok.hd,I2.ok.frames,.inl rfl,?_,?_,?_,?_,?_,?_,?_⟩,rfl,I2.bare,?_,⟨m0,hns,?_⟩,?_,?_,?_,?_,hok3,?_⟩
 ·show(relabel scope X.env).kind=.function
  exact hkind
 ·show(s2.heap.push Qe).objs.size<=s2.heap.objs.size+1
  rw[sz];exact Nat.le_refl _
 ·intro x y c h1 h2
  exact I2.ok.inj x y c (cap.sub x c h1) (cap.sub y c h2)
 ·intro x h
  exact cap.has x h
 ·intro x c h
  cases h
 ·intro b hb
  refine⟨?_,fun x c e=>?_⟩
  ·obtain⟨o,e⟩:=hold b hb
   exact Nat.ne_of_lt (Nat.lt_succ_of_lt (lt e))
  ·exact(f2 b hb).2.2.2.2.1 x c (cap.sub x c e)
 ·intro b o e
  obtain⟨q1,q2⟩:=I2.bs b o e
  exact⟨Heap.get?_push_of_some _ q1,(Zj (ne0 q1)).trans q2⟩
 ·show X.base.objs.size<=(s2.heap.push Qe).objs.size
  rw[sz]
  exact Nat.le_succ_of_le (Nat.le_trans I2.ok.bsz I2.sz)
 ·intro b o e hb
  obtain⟨_,_,_,f4,_,_⟩:=f2 b hb
  rcases f4 with z|z
  ·exact I2.ok.noex b o e z
  ·exact absurd (Nat.lt_of_lt_of_le (Nat.lt_of_lt_of_le (Heap.lt_size e) I2.ok.bsz) z) (Nat.lt_irrefl _)
 ·intro b hb hz
  rcases List.mem_cons.mp (I2.stkSub b hz) with e|hz
  ·exact(f2 b hb).2.1 e
  ·exact(f2 b hb).2.2.1 hz
 ·exact I2.stack.of_keeps fun b o e _=>⟨o,Heap.get?_push_of_some _ e,rfl⟩
 ·intro b hb
  show upd H2 s2.heap.objs.size (.lst []) b=none
  rw[Zj (Nat.ne_of_lt (frl b hb))]
  exact I2.stkFree b hb
 ·exact Un.kept kp
 ·intro i x v e1 e2 e3
  have hi:n0<=i:=by
   refine Nat.le_of_not_lt fun hlt=>?_
   rw[List.getElem?_append_left (by simpa using hlt),List.getElem?_replicate] at e2
   split at e2<;>cases e2
  obtain⟨k,rfl⟩:=Nat.exists_eq_add_of_le hi
  rw[List.getElem?_append_right (by simp),List.length_replicate,Nat.add_sub_cancel_left,List.getElem?_map] at e2
  cases ej:caps[k]? with
  |none=>rw[ej] at e2;cases e2
  |some j =>
   rw[ej] at e2
   have e2:(σ[j]?).join=some v:=by simpa using e2
   have es:σ[j]?=some (some v):=by
    cases z:σ[j]? with
    |none=>rw[z] at e2;cases e2
    |some q=>rw[z] at e2;have:q=some v:=e2;rw[this]
   obtain⟨a1,a2,a3⟩:=cap.cap k j x e1 ej
   obtain⟨m,hn,hl⟩:=I2.loc
   obtain⟨u,ru,lk⟩:=hl j x v a1 es (.inr (.inl a2))
   refine⟨u,ru,?_⟩
   rcases lk with⟨z,_⟩|⟨_,c,ec,cell⟩
   ·have z:X.env.scope.names.lookup x=some .local:=z
    rw[a2] at z;cases z
   ·obtain⟨c',ec'⟩:=cap.has x (.inl a3)
    have:=cap.sub x c' ec'
    rw[ec] at this
    cases this
    obtain⟨o,ho,hd⟩:=cell
    exact .inr ⟨.inl a3,c,ec',o,hold1 _ _ ho,hd⟩
 ·intro x c e
  obtain⟨v,o,ho,hd⟩:=I2.cell x c (cap.sub x c e)
  exact⟨v,o,hold1 _ _ ho,hd⟩
 ·show upd H2 s2.heap.objs.size (.lst []) (s2.heap.objs.size+1)=none
  rw[Zj (Nat.ne_of_gt (Nat.lt_succ_self _))]
  exact freshC
 ·intro x c e
  show upd H2 s2.heap.objs.size (.lst []) c=none
  rw[Zj (Nat.ne_of_lt (clt x c e))]
  exact I2.freeC x c (cap.sub x c e)
 ·intro p hp
  exact absurd (show p∈([]:List (Addr×Obj)) from hp) (by simp)
 ·rw[List.length_append,List.length_replicate,List.length_map]
  exact cap.len.symm
theorem comp_back (I2:Inv X pins σ H2 s2)(f2:∀b∈fp,FpOk X pins H2 b){σ':L2.St}{H':Hp}{s':Shared}{h':Heap}(J:Inv (compCx X Nc scope cl { s2 with heap:=s2.heap.push Qe } (upd H2 s2.heap.objs.size (.lst [])) (s2.heap.objs.size+1) fp) [] σ' H' s')(sb:Heap.SameBut (s2.heap.objs.size+1) s'.heap h') :
  Inv X pins σ H' { s' with heap:=h' }:=by
 have I3:Inv X pins σ (upd H2 s2.heap.objs.size (.lst [])) { s2 with heap:=s2.heap.push Qe }:=I2.laid (t':=s2.toks) (fun b u e=>Heap.get?_push_of_some _ e) (Nat.le_refl _) ⟨Nat.zero_le _,[],0,.nil,Heap.get?_push_size _ rfl⟩
 have sz:(s2.heap.push Qe).objs.size=s2.heap.objs.size+1:=Heap.size_push _ _
 have same:∀{b:Addr} {o:Obj},(s2.heap.push Qe).get? b=some o->h'.get? b=s'.heap.get? b:=fun {b o} e=>sb.2 b (by
  have:=Heap.lt_size e
  rw[sz] at this
  exact Nat.ne_of_lt this)
 have u:Un (frs X.stack) fp (upd H2 s2.heap.objs.size (.lst [])) H' (s2.heap.push Qe) s'.heap:=J.base
 refine I3.call' (s':={ s' with heap:=h' }) (ch:=fp) J.os ⟨fun b o e n h1 h2=>?_,fun b o e n h1 h2=>?_,u.free,fun b o e h1=>?_,u.tups,u.frzs,u.tbls⟩ (fun b ob e=>?_) J.bare fun b hb=>?_
 ·show h'.get? b=_
  rw[same e];exact u.keep b o e n h1 h2
 ·show ∃sl,h'.get? b=_
  rw[same e];exact u.slot b o e n h1 h2
 ·show ∃o',h'.get? b=_
  rw[same e];exact u.there b o e h1
 ·have fr:H' (s2.heap.objs.size+1)=none:=J.free
  refine(J.hok b ob e).stay (fun c w hc q=>?_) (fun _ q=>q) (fun _ _ q=>q) fun _ _ _ q=>q
  refine(sb.2 c ?_).trans q
  rintro rfl
  rcases hc with rfl|hc
  ·rw[fr] at e;cases e
  ·rw[fr] at hc;cases hc
 ·obtain⟨f0,f1,_,f3,f4,f5⟩:=f2 b hb
  exact⟨f3,f1,f4,f5⟩
end
def capS:Option S->Option S
 |some (.im d)=>some (.im d)
 |_=>none
def sdC (n0:Nat)(caps:List Nat)(sd:DSt):DSt:=List.replicate n0 none++caps.map fun j=>capS (sd[j]?).join
def mapD (gt:D->DSt->M DSt)(fe:DSt->M D)(sd0:DSt):List D->M (List D)
 |[]=>.ok []
 |d::ds=>match gt d sd0 with
  |.ok sd1=>match fe sd1 with
   |.ok e=>match mapD gt fe sd0 ds with
    |.ok es=>.ok (e::es)
    |_=>.bad
   |_=>.bad
  |_=>.bad
def Xf (fi:DSt->M (List D))(n0:Nat)(caps:List Nat)(gt:D->DSt->M DSt)(fe:DSt->M D)(sd:DSt):M (List D):=(fi sd).bind fun ds=>if few ds then mapD gt fe (sdC n0 caps sd) ds else .bad
def PoF (K:PySem.W.Frag)(E:XK)(Hf H:Hp)(r:M (List D))(Q:VK):Prop:=match r with
 |.ok ds=>∀p xs Hf' H',Gr Hf H Hf' H'->H p=none->Hf' p=none->H' p=some (.lst xs)->Reps K Hf' ds xs->Q (.ref p) H'
 |.ex x=>∀c dx Hf' H',Gr Hf H Hf' H'->RepX K Hf' H' x c dx->E c dx H'
 |.bad=>False
def PFd (X:Cx)(E:XK)(e:Expr)(f:DSt->M (List D)):Prop :=
 ∃t:TE,PE X e t/\∀(H0:Hp) (B:Addr->Prop) (Hf:Hp) (sd:DSt) (σ:L2.St) (H:Hp) (Q:VK),SR X.K H0 B Hf sd σ H->PoF X.K E Hf H (f sd) Q->t σ H Q
theorem PoF.weak {K:PySem.W.Frag}{E:XK}{Hf H Hf1 H1:Hp}{r:M (List D)}{Q:VK}(g:Gr Hf H Hf1 H1)(h:PoF K E Hf H r Q):PoF K E Hf1 H1 r Q:=by
 cases r with
 |ok a=>exact fun p xs Hf' H' g' e1 e2 e3 e4=>h p xs Hf' H' (g.trans g') (g.all.free e1) e2 e3 e4
 |ex x=>exact fun c dx Hf' H' g' q=>h c dx Hf' H' (g.trans g') q
 |bad=>exact h
theorem PoF.bind {K:PySem.W.Frag}{E:XK}{Hf H:Hp}{α β:Type}{R:Hp->Hp->α->β->Prop}{r:M α}{k:α->M (List D)}{Q:VK}{Q1:β->Hp->Prop}(h:PoF K E Hf H (r.bind k) Q)(s:∀a b Hf1 H1,r=.ok a->Gr Hf H Hf1 H1->R Hf1 H1 a b->PoF K E Hf1 H1 (k a) Q->Q1 b H1):Po K E R Hf H r Q1:=by
 cases r with
 |ok a=>exact fun b Hf' H' g q=>s a b Hf' H' rfl g q (PoF.weak g h)
 |ex x=>exact h
 |bad=>exact h
def eNew (f:DSt->M (List D))(sd:DSt):M D:=(f sd).bind fun ds=>.ok (.lst ds)
theorem pd_new {X:Cx}{E:XK}{e:Expr}{f:DSt->M (List D)}(h:PFd X E e f):PEd X E e (eNew f):=by
 obtain⟨t,p,q⟩:=h
 refine⟨t,p,fun H0 B Hf sd σ H Q sr h=>q H0 B Hf sd σ H Q sr ?_⟩
 unfold eNew at h
 cases e:f sd with
 |ok ds =>
  rw[e] at h
  intro p xs Hf' H' g e1 e2 e3 e4
  refine h _ (upd Hf' p (.lst xs)) H' ⟨g.fz.trans (Z1 e2 _),fun b u z=>?_,g.all,fun a h1 h2=>?_⟩ (rep_lst.mpr ⟨p,xs,rfl,SqL.of Zn,e4.mono (Z1 e2 _)⟩)
  ·by_cases hb:b=p
   ·subst hb;rw[Zn] at z;rw[e3];exact z
   ·rw[Zj hb] at z;exact g.sub b u z
  ·have:a≠p:=fun z=>h1.nn (z▸e1)
   rw[Zj this];exact g.ban a h1 h2
 |ex x=>rw[e] at h;exact h
 |bad=>rw[e] at h;exact h
theorem mapD_noex {gt:D->DSt->M DSt}{fe:DSt->M D}{sd0:DSt}{x:XV}:∀{ds:List D},mapD gt fe sd0 ds=.ex x->False
 |[],h=>by cases h
 |d::ds,h=>by
  unfold mapD at h
  split at h
  ·split at h
   ·split at h<;>cases h
   ·cases h
  ·cases h
theorem SR.ofIm {K:PySem.W.Frag}{Hf H:Hp}{sd:DSt}{σ:L2.St}(e:Same Hf H)(hl:sd.length=σ.length)(him:∀(i:Nat) (d:D),sd[i]?=some (some (.im d))->∃v,σ[i]?=some (some v)/\Rep K Hf d v)(hno:∀(i:Nat) (t:S),sd[i]?=some (some t)->∃d,t=.im d) :
  SR K H (fun a=>Lv H a/\Hf a=none) Hf sd σ H :=
 ⟨e,Same.refl _,fun _ h=>h.2,fun _ h=>h.1,hl,fun i t h _=>(by obtain⟨d,rfl⟩:=hno i t h;exact him i d h),fun i t h ho=>(by obtain⟨d,rfl⟩:=hno i t h;cases ho),fun i _ t _ _ _ h ho _ _ _ _=>(by obtain⟨d,rfl⟩:=hno i t h;cases ho)⟩
theorem sdC_lt {n0:Nat}{caps:List Nat}{sd:DSt}{i:Nat}{s:S}(h:(sdC n0 caps sd)[i]?=some (some s)):n0<=i:=by
 refine Nat.le_of_not_lt fun hlt=>?_
 unfold sdC at h
 rw[List.getElem?_append_left (by simpa using hlt),List.getElem?_replicate] at h
 split at h<;>cases h
theorem sdC_at {n0:Nat}{caps:List Nat}{sd:DSt}{i:Nat}{s:S}(h:(sdC n0 caps sd)[i]?=some (some s)):∃k j d,i=n0+k/\caps[k]?=some j/\sd[j]?=some (some (.im d))/\s=.im d:=by
 obtain⟨k,rfl⟩:=Nat.exists_eq_add_of_le (sdC_lt h)
 unfold sdC at h
 rw[List.getElem?_append_right (by simp),List.length_replicate,Nat.add_sub_cancel_left,List.getElem?_map] at h
 cases ej:caps[k]? with
 |none=>rw[ej] at h;cases h
 |some j =>
  rw[ej] at h
  have h:capS (sd[j]?).join=some s:=by simpa using h
  cases z:sd[j]? with
  |none=>rw[z] at h;cases h
  |some q =>
   rw[z] at h
   cases q with
   |none=>cases h
   |some q =>
    cases q with
    |im d=>cases h;exact⟨k,j,d,rfl,ej,z,rfl⟩
    |ow _=>cases h
    |od _=>cases h
    |dk _=>cases h
    |xc _=>cases h
    |fn _=>cases h
    |ob _ _ _=>cases h
    |fl _ _ _=>cases h
theorem sdC_no {n0:Nat}{caps:List Nat}{sd:DSt}(i:Nat)(t:S)(h:(sdC n0 caps sd)[i]?=some (some t)):∃d,t=.im d:=by
 obtain⟨_,_,d,_,_,_,e⟩:=sdC_at h
 exact⟨d,e⟩
def Keep (n0:Nat)(gt:D->DSt->M DSt):Prop:=∀d sd sd1,gt d sd=.ok sd1->sd1.length=sd.length/\(∀i:Nat,n0<=i->sd1[i]?=sd[i]?)/\True
theorem keep_name {n0 k:Nat}(h:k<n0):Keep n0 (gNm k):=fun d sd sd1 e=>by
 cases e
 exact⟨List.length_set,fun i hi=>List.getElem?_set_ne (by lia),trivial⟩
theorem pfd_comp {X:Cx}{E:XK}{pos:Pos}{tg elt iter:Expr}{scope:Scope}{Nc:List Str}{n0:Nat}{caps:List Nat}{cl:List (Str×Addr)}{fi:DSt->M (List D)}{gt:D->DSt->M DSt}{fe:DSt->M D}(hc:X.calm=true)(hclos:closureFor scope X.env=pure cl)(cap:CapOk X Nc n0 caps scope cl)(hkind:scope.kind=.function)(hcell:∀y∈scope.names,y.2≠.cell)(hnames:∀y∈scope.names,y.2=.local->scope.names.lookup y.1=some .local)(hk:Keep n0 gt)(hi:PId X E tg iter fi)(hg:∀s3 H3 C ex,PGd (compCx X Nc scope cl s3 H3 C ex) tg gt)(he:∀s3 H3 C ex,PEd (compCx X Nc scope cl s3 H3 C ex) E0 elt fe)(hs:∀x,foldedSetIterable iter X.env x=pure x:=by intro _;rfl) :
  PFd X E (.ListComp elt [⟨tg,iter,[],0⟩] scope pos) (Xf fi n0 caps gt fe):=by
 refine⟨fun σ H Q=>∃H0 B Hf sd,SR X.K H0 B Hf sd σ H/\PoF X.K E Hf H (Xf fi n0 caps gt fe sd) Q,?_,fun H0 B Hf sd σ H Q sr h=>⟨H0,B,Hf,sd,sr,h⟩⟩
 rintro pins s σ H Q I ⟨H0,B,Hf,sd,sr,h⟩
 obtain⟨wi,pw,qw⟩:=hi
 rw[eval_ListComp]
 refine wpAny_comprehension_free (use:=none) rfl hs hclos hkind hnames ?_
 have step:=pw pins s σ H (fun J H2=>∃ds Hf2,Gr Hf H Hf2 H2/\ItOk X.K Hf2 H2 ds J/\PoF X.K E Hf2 H2 (if few ds then mapD gt fe (sdC n0 caps sd) ds else .bad) Q) I
  (qw H0 B Hf sd σ H _ sr (PoF.bind h fun ds J Hf2 H2 _ g2 jok h2=>⟨ds,Hf2,g2,jok,h2⟩))
 refine thn step fun v s1 h1=>thn h1 fun itv s2 h2=>?_
 obtain⟨it,fp,tn,J,H2,rfl,I2,T,st2,f2,ds,Hf2,g2,jok,hq⟩:=h2
 have sr2:=sr.gr g2
 split at hq
 case isFalse=>exact hq.elim
 case isTrue hfew =>
 have fresh:H2 s2.heap.objs.size=none:=I2.hok.fresh (Nat.le_refl _)
 have holdf:∀b∈fp,∃o,s2.heap.get? b=some o:=fun b hb=>let ⟨o,e,_⟩:=T.obj 0 _ st2 b hb;⟨o,e⟩
 refine wpAny_newObj_type (wpAny_newFunctionEnv hcell (by intro y hy;simp at hy) (fun h₁ hns₁ hsb₁=>?_) hkind)
 have hC:(s2.heap.push Qe).objs.size=s2.heap.objs.size+1:=Heap.size_push _ _
 have hns:h₁.Ns (s2.heap.objs.size+1) (fun x=>([]:List (Str×Value)).reverse.lookup x):=hC▸hns₁
 have hsb:Heap.SameBut (s2.heap.objs.size+1) ((s2.heap.push Qe).push { cls:=.type "dict", data:=.dict #[] }) h₁:=hC▸hsb₁
 have hold1:∀b o,s2.heap.get? b=some o->h₁.get? b=some o:=fun b o e=>by
  have hb:b<s2.heap.objs.size:=Heap.lt_size e
  exact(hsb.2 b (Nat.ne_of_lt (Nat.lt_succ_of_lt hb))).trans (Heap.get?_push_of_some _ (Heap.get?_push_of_some _ e))
 have hD:h₁.get? s2.heap.objs.size=some Qe:=(hsb.2 _ (Nat.ne_of_lt (Nat.lt_succ_self _))).trans (Heap.get?_push_of_some _ (Heap.get?_push_size _ rfl))
 have J0:=comp_inv I2 f2 holdf hkind cap (tk:=s2.toks+([]:List (Str×Value)).length) hns hold1 hD
 have hg:=hg { s2 with heap:=s2.heap.push Qe } (upd H2 s2.heap.objs.size (.lst [])) (s2.heap.objs.size+1) fp
 have he:=he { s2 with heap:=s2.heap.push Qe } (upd H2 s2.heap.objs.size (.lst [])) (s2.heap.objs.size+1) fp
 generalize hXc:compCx X Nc scope cl { s2 with heap:=s2.heap.push Qe } (upd H2 s2.heap.objs.size (.lst [])) (s2.heap.objs.size+1) fp=Xc at J0 hg he
 have eP:Xc.prog=X.prog:=by subst hXc;rfl
 have eW:Xc.w=X.w:=by subst hXc;rfl
 have eK:Xc.K=X.K:=by subst hXc;rfl
 have eA:Xc.A=X.A:=by subst hXc;rfl
 have eX:Xc.xe=fun _ _=>False:=by subst hXc;rfl
 have eE:Xc.env=compEnvC scope cl (s2.heap.objs.size+1) X.env:=by subst hXc;rfl
 have eC:Xc.calm=true:=by subst hXc;exact hc
 have fpc:∀{H':Hp},(∀b∈fp,H' b=none)->∀b∈fp,FpOk Xc [] H' b:=fun {H'} hn b hb=>by
  subst hXc
  obtain⟨f0,f1,f2',f3,f4,f5⟩:=f2 b hb
  obtain⟨o,eo⟩:=holdf b hb
  refine⟨hn b hb,Nat.ne_of_lt (Nat.lt_succ_of_lt (Heap.lt_size eo)),fun hz=>?_,.inl hb,fun x c e=>f4 x c (cap.sub x c e),fun p hp=>absurd (show p∈([]:List (Addr×Obj)) from hp) (by simp)⟩
  rcases List.mem_cons.mp (I2.stkSub b hz) with e|hz
  ·exact f1 e
  ·exact f2' hz
 have nfp:∀b∈fp,b≠s2.heap.objs.size:=fun b hb=>by
  obtain⟨o,eo⟩:=holdf b hb
  exact Nat.ne_of_lt (Heap.lt_size eo)
 obtain⟨tg',pg,qg⟩:=hg
 obtain⟨te,pe,qe⟩:=he
 have loop:∀s₃:Shared,s₃={ s2 with heap:=h₁,toks:=s2.toks+([]:List (Str×Value)).length } ->
   codeAny (model X.prog X.w) X.A (.compLoop (.ListComp elt [⟨tg,iter,[],0⟩] scope pos) 0 (.ref it) (.ref s2.heap.objs.size) (compEnvC scope cl (s2.heap.objs.size+1) X.env))
    (compPost (model X.prog X.w) X.A X.xe none (EP X pins σ Q) (.ref s2.heap.objs.size) (s2.heap.objs.size+1)) s₃:=by
  rintro s₃ rfl
  refine codeAny_comp_any (fun n s'=>∃i vs es H' Hf' σ',n=ds.length - i/\i<=ds.length/\Inv Xc [] σ' H' s'/\tn i s'.heap/\(∀b∈fp,H' b=none) /\
   H' s2.heap.objs.size=some (.lst vs)/\Hf' s2.heap.objs.size=none/\Gr Hf2 H2 Hf' H'/\Reps X.K Hf' es vs/\vs.length=i /\
   (sdC n0 caps sd).length=σ'.length/\(∀(j:Nat) (d:D),(sdC n0 caps sd)[j]?=some (some (.im d))->∃v,σ'[j]?=some (some v)/\Rep X.K Hf' d v) /\
   PoF X.K E Hf2 H2 ((mapD gt fe (sdC n0 caps sd) (ds.drop i)).bind fun fs=>.ok (es++fs)) Q) ?_ ds.length ?_
  ·rintro n s' ⟨i,vs,es,H',Hf',σ',rfl,hil,J1,st1,fr1,hd1,hf1,g1,rs1,hl1,hlen1,him1,hq1⟩
   have jj:=jok i Hf' H' g1.fz g1.sub
   cases q:ds[i]? with
   |none =>
    rw[q] at jj
    have tdone:=T.done Xc eP eW eK eC i [] s' _ H' (fun _ _=>False) J1 (fpc fr1) st1 jj
    rw[eA] at tdone
    refine wpAny_mono tdone (fun r s4 hr=>?_) fun _ _ z=>z
    obtain⟨rfl,J4⟩:=hr
    rw[List.drop_eq_nil_of_le (List.getElem?_eq_none_iff.mp q)] at hq1
    subst hXc
    obtain⟨m,hn4,_⟩:=J4.loc
    refine⟨m,hn4,fun h' sb=>?_⟩
    refine⟨.ref s2.heap.objs.size,H',comp_back I2 f2 J4 sb,rfl,?_⟩
    have hq2:PoF X.K E Hf2 H2 (.ok es) Q:=by
     have:es++([]:List D)=es:=List.append_nil es
     rw[<-this];exact hq1
    exact hq2 _ vs Hf' H' g1 fresh hf1 hd1 rs1
   |some d =>
    rw[q] at jj
    obtain⟨go,yl⟩:=jj
    have hlt:i<ds.length:=(List.getElem?_eq_some_iff.mp q).1
    have hdr:ds.drop i=d::ds.drop (i+1):=by
     rw[List.drop_eq_getElem_cons hlt]
     congr 1
     exact(List.getElem?_eq_some_iff.mp q).2
    obtain⟨sd1,e1,eg,ee,hq2⟩:∃sd1 e1,gt d (sdC n0 caps sd)=.ok sd1/\fe sd1=.ok e1/\PoF X.K E Hf2 H2 ((mapD gt fe (sdC n0 caps sd) (ds.drop (i+1))).bind fun fs=>.ok ((es++[e1])++fs)) Q:=by
     rw[hdr] at hq1
     unfold mapD at hq1
     split at hq1
     ·rename_i sd1 eg
      split at hq1
      ·rename_i e1 ee
       refine⟨sd1,e1,eg,ee,?_⟩
       cases em:mapD gt fe (sdC n0 caps sd) (ds.drop (i+1)) with
       |ok fs =>
        rw[em] at hq1
        have:(es++[e1])++fs=es++e1::fs:=by simp
        rw[M.bind_ok,this]
        exact hq1
       |ex x=>exact(mapD_noex em).elim
       |bad=>rw[em] at hq1;exact hq1.elim
      ·exact hq1.elim
     ·exact hq1.elim
    have titem:=T.item Xc eP eW eK eC i [] s' _ H' (fun _ _=>False) J1 (fpc fr1) st1 go
    rw[eA] at titem
    refine wpAny_mono titem (fun r s4 hr=>?_) fun _ _ z=>z
    obtain⟨u,rfl,h4⟩:=hr
    refine wpAny_mono h4 (fun _ s5 h5=>?_) fun _ _ z=>z
    obtain⟨x,H5,J5,r5,y5,st5,fr5⟩:=h5
    obtain⟨Hf5,g5,rx⟩:=yl x H5 y5
    have J5':=J5.pinned (fpc fr5) (T.obj _ _ st5)
    have hD5:H5 s2.heap.objs.size=some (.lst vs):=g5.all _ _ hd1
    have hf5:Hf5 s2.heap.objs.size=none:=g5.ban _ (Lv.lst hd1) hf1
    have him5:∀(j:Nat) (d:D),(sdC n0 caps sd)[j]?=some (some (.im d))->∃v,σ'[j]?=some (some v)/\Rep X.K Hf5 d v:=fun j d z=>let ⟨v,z1,z2⟩:=him1 j d z;⟨v,z1,z2.mono g5.fz⟩
    have sr5:SR Xc.K H5 (fun a=>Lv H5 a/\Hf5 a=none) Hf5 (sdC n0 caps sd) σ' H5:=eK▸SR.ofIm g5.sub hlen1 him5 sdC_no
    obtain⟨kl,kk,kn⟩:=hk d _ sd1 eg
    have hg2:=pg _ s5 σ' H5 x u (fun σ6 H6=>te σ6 H6 fun v7 H7=>∃Hf7,Gr Hf5 H5 Hf7 H7/\Rep X.K Hf7 e1 v7/\(sdC n0 caps sd).length=σ6.length/\(∀(j:Nat) (d:D),(sdC n0 caps sd)[j]?=some (some (.im d))->∃v,σ6[j]?=some (some v)/\Rep X.K Hf7 d v)) J5' r5
     (qg H5 _ Hf5 _ σ' H5 x d sd1 _ sr5 (eK▸rx) eg fun σ6 sr6=>qe H5 _ Hf5 sd1 σ6 H5 _ sr6 (by
      rw[ee]
      intro v7 Hf7 H7 g7 r7
      have r7:Rep Xc.K Hf7 e1 v7:=r7
      rw[eK] at r7
      refine⟨Hf7,g7,r7,by rw[<-kl];exact sr6.len,fun j d z=>?_⟩
      have z2:sd1[j]?=some (some (.im d)):=by rw[kk j (sdC_lt z)];exact z
      obtain⟨v,z3,z4⟩:=sr6.im j d z2
      rw[eK] at z4
      exact⟨v,z3,z4.mono g7.fz⟩))
    rw[eP,eW,eA,eX,eE] at hg2
    refine wpAny_mono hg2 (fun _ s6 h6=>?_) fun _ _ z=>z
    obtain⟨σ6,H6,J6,q6⟩:=h6
    have he2:=pe _ s6 σ6 H6 _ J6 q6
    rw[eP,eW,eA,eX,eE] at he2
    refine wpAny_mono he2 (fun y s7 h7=>?_) fun _ _ z=>z
    obtain⟨v7,H7,J7,r7,Hf7,g7,rv7,hl7,him7⟩:=h7
    have hD7:H7 s2.heap.objs.size=some (.lst vs):=g7.all _ _ hD5
    have hf7:Hf7 s2.heap.objs.size=none:=g7.ban _ (Lv.lst hD5) hf5
    have happ:=mt_append (X:=Xc) _ s7 σ6 H7 (.ref s2.heap.objs.size) [v7] (.ref s2.heap.objs.size) [y] (fun _ H8=>H8=upd H7 s2.heap.objs.size (.lst (vs++[v7]))) J7 rfl (.cons r7 .nil)
     ⟨_,vs,v7,rfl,rfl,hD7,by
      have h1:=of_decide_eq_true hfew
      have h2:=sizeLine_eq
      lia,rfl⟩
    rw[eP,eW,eA,eX] at happ
    refine wpAny_mono happ (fun _ s8 h8=>?_) fun _ _ z=>z
    obtain⟨_,H8,J8,_,e8⟩:=h8
    subst e8
    have g17:=(g1.trans g5).trans g7
    refine⟨ds.length - (i+1),by lia,i+1,vs++[v7],es++[e1],_,Hf7,σ6,rfl,hlt,J8.unpinned,?_,fun b hb=>?_,Zn,hf7,⟨g17.fz,fun b o z=>?_,fun b o z=>?_,g17.ban⟩,?_,by rw[List.length_append,hl1];rfl,hl7,him7,hq2⟩
    ·exact T.keep _ _ _ st5 fun b hb o e=>(J8.pin (b,o) (List.mem_append_right _ (List.mem_append_right _ (Yn hb e)))).1
    ·obtain⟨o,e,_⟩:=T.obj _ _ st5 b hb
     exact(J8.pin (b,o) (List.mem_append_right _ (List.mem_append_right _ (Yn hb e)))).2.1
    ·have:b≠s2.heap.objs.size:=Zk z hf7
     rw[Zj this];exact g17.sub b o z
    ·have:b≠s2.heap.objs.size:=Zk z fresh
     rw[Zj this];exact g17.all b o z
    ·exact(rs1.mono (g5.fz.trans g7.fz)).append (Reps.cons rv7 Reps.nil)
  ·refine⟨0,[],[],_,Hf2,_,by simp,Nat.zero_le _,J0,T.keep 0 _ _ st2 fun b hb o e=>hold1 b o e,fun b hb=>?_,Zn,g2.sub.free fresh,⟨Same.refl _,fun b o z=>?_,Z1 fresh _,fun _ _ z=>z⟩,Reps.nil,rfl,?_,fun j d z=>?_,?_⟩
   ·rw[Zj (nfp b hb)];exact(f2 b hb).1
   ·have:b≠s2.heap.objs.size:=Zk (g2.sub b o z) fresh
    rw[Zj this];exact g2.sub b o z
   ·unfold sdC;simp only[List.length_append,List.length_replicate,List.length_map]
   ·obtain⟨k,j',d',rfl,ej,es,ed⟩:=sdC_at z
    cases ed
    obtain⟨v,z1,z2⟩:=sr2.im j' d es
    refine⟨v,?_,z2⟩
    rw[List.getElem?_append_right (by simp),List.length_replicate,Nat.add_sub_cancel_left,List.getElem?_map,ej]
    simp[z1]
   ·have:∀r:M (List D),(r.bind fun fs=>.ok ([]++fs))=r:=fun r=>by cases r<;>simp
    rw[List.drop_zero,this]
    exact hq
 show codeAny (model X.prog X.w) X.A (.compStart (.ListComp elt [⟨tg,iter,[],0⟩] scope pos) 0 (.ref it) (.ref s2.heap.objs.size) (compEnvC scope cl (s2.heap.push Qe).objs.size X.env))
  (compPost (model X.prog X.w) X.A X.xe none (EP X pins σ Q) (.ref s2.heap.objs.size) (s2.heap.push Qe).objs.size) { s2 with heap:=h₁,toks:=s2.toks+([]:List (Str×Value)).length }
 rw[hC]
 exact codeAny_compStart_list (loop _ rfl) (T.self X.A 0 _ _ _ (T.keep 0 _ _ st2 fun b hb o e=>hold1 b o e) (loop _ rfl))
theorem cap0 {X:Cx}{Nc:List Str}{n0:Nat}{scope:Scope}(hn:Nc.length=n0)(h:∀y∈scope.names,y.2≠.cell/\y.2≠.free):CapOk X Nc n0 [] scope []:=by
 have key:∀(l:List (Str×NameKind)) (y:Str) (k:NameKind),(∀p∈l,p.2≠.cell/\p.2≠.free)->(l.map fun(n,k)=>if(k==NameKind.free&&X.env.scope.kind==.function&&X.env.kindOf n==some .cell) then(n,NameKind.cell) else(n,k)).lookup y=some k->k≠.cell/\k≠.free:=by
  intro l y k
  induction l with
  |nil=>intro _ e;cases e
  |cons p r ih =>
   intro hp e
   obtain⟨n,kk⟩:=p
   have h0:=hp (n,kk) List.mem_cons_self
   have hf:(kk==NameKind.free)=false:=by
    have:=h0.2
    cases kk<;>first|rfl|exact absurd rfl this
   rw[List.map_cons] at e
   simp only[hf,Bool.false_and,Bool.false_eq_true,if_false,List.lookup_cons] at e
   split at e
   ·cases e;exact h0
   ·exact ih (fun q hq=>hp q (List.mem_cons_of_mem _ hq)) e
 refine⟨fun y c e=>(nomatch e),fun y e=>?_,fun i j x _ e=>by simp at e,by simpa using hn⟩
 rcases e with e|e
 ·exact absurd rfl (key _ y _ h e).1
 ·exact absurd rfl (key _ y _ h e).2
section
variable {X:Cx} {E:XK} {pos:Pos} {a b:Expr}
def fLst (fs:DSt->M (List D))(sd:DSt):M (List D):=(fs sd).bind fun ds=>if few ds then .ok ds else .bad
theorem pfd_lst {es:List Expr}{fs:DSt->M (List D)}(h:PAd X E es fs):PFd X E (.List es pos) (fLst fs):=by
 obtain⟨t,p,q⟩:=h
 refine⟨_,pe_lst p,fun H0 B Hf sd σ H Q sr h=>?_⟩
 refine q H0 B Hf sd σ H _ sr (PoF.bind h fun ds vs Hf1 H1 _ g1 rs h1=>?_)
 split at h1
 ·rename_i hf
  refine⟨few_line hf rs,fun p hp=>h1 p vs Hf1 _ ⟨Same.refl _,g1.sub.trans (Z1 hp _),Z1 hp _,fun _ _ e=>e⟩ hp (g1.sub.free hp) Zn rs⟩
 ·exact h1.elim
theorem PoS.bindF {K:PySem.W.Frag}{E:XK}{H0 Hf H:Hp}{B:Addr->Prop}{sd:DSt}{σ:L2.St}{r:M (List D)}{k:List D->M O}{D':Ends}{Q1:VK}(sr:SR K H0 B Hf sd σ H)(h:PoS K E H0 B Hf (r.bind k) D')(s:∀ds p xs Hf1 H1,r=.ok ds->Gr Hf H Hf1 H1->SR K H0 B Hf1 sd σ H1->H p=none->Hf1 p=none->H1 p=some (.lst xs)->Reps K Hf1 ds xs->PoS K E H0 B Hf1 (k ds) D'->Q1 (.ref p) H1):PoF K E Hf H r Q1:=by
 cases r with
 |ok ds=>exact fun p xs Hf' H' g e1 e2 e3 e4=>s ds p xs Hf' H' rfl g (sr.gr g) e1 e2 e3 e4 (PoS.weak g.fz h)
 |ex x=>exact fun c dx Hf' H' g q=>h c dx Hf' H' g.fz (sr.gr g).fin q
 |bad=>exact h
theorem SR.set_new {K:PySem.W.Frag}{H0 Hf H H1:Hp}{B:Addr->Prop}{sd:DSt}{σ:L2.St}(r0:SR K H0 B Hf sd σ H){Hf1:Hp}(r:SR K H0 B Hf1 sd σ H1)(g:Same H H1)(i:Nat){p:Addr}{t:S}(hp:H p=none)(hf:Hf1 p=none)(ho:t.own=true)(h:S.at K Hf1 H1 p t) :
  SR K H0 B Hf1 (sd.set i (some t)) (σ.set i (some (.ref p))) H1 where
 sub:=r.sub
 all:=r.all
 ban:=r.ban
 bt:=r.bt
 len:=by rw[List.length_set,List.length_set];exact r.len
 imS:=fun j d' e z=>by
  by_cases hj:i=j
  ·subst hj
   have hi:i<sd.length:=by
    have:=(List.getElem?_eq_some_iff.mp e).1;simpa using this
   rw[List.getElem?_set_self hi] at e
   cases e
   rw[ho] at z;cases z
  ·rw[List.getElem?_set_ne hj] at e ⊢
   exact r.imS j d' e z
 ow:=fun j u e hu=>by
  by_cases hj:i=j
  ·subst hj
   have hi:i<sd.length:=by
    have:=(List.getElem?_eq_some_iff.mp e).1;simpa using this
   rw[List.getElem?_set_self hi] at e
   cases e
   exact⟨p,by rw[List.getElem?_set_self (by rw[<-r.len];exact hi)],r0.all.free hp,hf,h⟩
  ·rw[List.getElem?_set_ne hj] at e ⊢
   exact r.ow j u e hu
 sep:=fun j k u w q hjk e1 o1 e2 o2 e3 e4=>by
  have new:∀{l:Nat},i=l->(σ.set i (some (V.ref p)))[l]?=some (some (.ref q))->q=p:=fun {l} z e=>by
   subst z
   have hi:i<σ.length:=by
    have:=(List.getElem?_eq_some_iff.mp e).1;simpa using this
   rw[List.getElem?_set_self hi] at e
   cases e;rfl
  have old:∀{l:Nat} {u:S},i≠l->(sd.set i (some t))[l]?=some (some u)->u.own=true->(σ.set i (some (V.ref p)))[l]?=some (some (.ref q))->q≠p:=fun {l u} n e ou z=>by
   rw[List.getElem?_set_ne n] at e z
   obtain⟨q',e1,_,_,e4⟩:=r0.ow l u e ou
   rw[z] at e1
   cases e1
   obtain⟨o,eo⟩:=at_some e4
   exact Zk eo hp
  by_cases n1:i=j
  ·have n2:i≠k:=fun z=>hjk (n1.symm.trans z)
   exact old n2 e2 o2 e4 (new n1 e3)
  ·by_cases n2:i=k
   ·exact old n1 e1 o1 e3 (new n2 e4)
   ·rw[List.getElem?_set_ne n1] at e1 e3
    rw[List.getElem?_set_ne n2] at e2 e4
    exact r.sep j k u w q hjk e1 o1 e2 o2 e3 e4
def sOwn (i:Nat)(f:DSt->M (List D))(sd:DSt):M O:=(f sd).bind fun ds=>.ok (.nx (sd.set i (some (.ow ds))))
theorem psd_own (i:Nat){x:Str}{e:Expr}{f:DSt->M (List D)}{pos':Pos}(hN:X.N.Nodup)(h:PFd X E e f)(hi:X.N[i]?=some x:=by rfl)(hx:Loc X.env.scope x:=by first|exact Or.inl rfl|exact Or.inr rfl)(hs:swapsWith e (some (.Name x pos')) pos.line X.env=pure false:=by rfl)(hf:X.fn x=true\/X.env.scope.names.lookup x=some .local:=by first|exact .inl rfl|exact .inr rfl|assumption) :
  PSd X E (.Assign [.Name x pos'] e pos) (sOwn i f):=by
 obtain⟨t,p,q⟩:=h
 refine⟨_,ps_set hN hi hx p hs hf,fun H0 B Hf sd σ H D sr h=>?_⟩
 refine q H0 B Hf sd σ H _ sr (PoS.bindF sr h fun ds p xs Hf1 H1 _ g1 sr1 e1 e2 e3 e4 h1=>?_)
 exact h1 _ Hf1 H1 (Same.refl _) (sr.set_new sr1 g1.all i e1 e2 rfl ⟨xs,e3,e4⟩)
def sApp (i:Nat)(f:DSt->M D)(sd:DSt):M O:=match sd[i]? with
 |some (some (.ow ds))=>(f sd).bind fun d=>if few ds then .ok (.nx (sd.set i (some (.ow (ds++[d]))))) else .bad
 |_=>.bad
theorem psd_app (i:Nat){x:Str}{e:Expr}{f:DSt->M D}{p1 p2 p3:Pos}(h:PEd X E e f)(hi:X.N[i]?=some x:=by rfl)(hv:Vis X.env.scope x:=by first|exact Or.inl rfl|exact Or.inr (Or.inl rfl)|exact Or.inr (Or.inr rfl))
  (hd:(x==("__debug__" : Str))=false:=by decide) (hcd:(x==("__classdict__" : Str))=false:=by decide)
  (hse:starEach [e] X.env=(false,eval e X.env)::starEach [] X.env:=by rfl)
  (hbase:attributeBase (.Name x p1) "append" X.env (eval (.Name x p1) X.env)=eval (.Name x p1) X.env:=by rfl)
  (hfew:((backTo p3 (starEach [e] X.env)).all (fun x=>!x.1)&&(backToKw p3 (keywordEach [] X.env)).all (fun x=>x.1.isSome)
   && decide ([e].length+([]:List Keyword).length+(if([]:List Keyword).isEmpty then 0 else 1)<30))=true:=by rfl)
  (hline:(p2.endLine==p3.line)=true:=by rfl) (hplain:(backTo p3 (starEach ([]:List Expr) X.env)).any (·.1)=false:=by rfl)
  (hsw:swapsWith (.Call (.Attribute (.Name x p1) "append" p2) [e] [] p3) none pos.line X.env=pure false:=by rfl) :
  PSd X E (.Expr (.Call (.Attribute (.Name x p1) "append" p2) [e] [] p3) pos) (sApp i f):=by
 obtain⟨t,pt,q⟩:=h
 refine⟨_,ps_expr (pe_bm PySem.F.plainAttrs_list PySem.F.slot_list_append PySem.F.type_list_append mt_append (Z8 hi hv hd hcd) (Qp pt Y7 hse) hbase hfew hline hse hplain) hsw,fun H0 B Hf sd σ H D sr h=>?_⟩
 unfold sApp at h
 split at h
 ·rename_i ds ei
  obtain⟨p,z1,z2,z3,xs,z4,z5⟩:=sr.ow i _ ei rfl
  refine⟨_,z1,.inl ⟨rfl,xs,SqL.of z4⟩,?_⟩
  refine q H0 B Hf sd σ H _ sr (PoS.bind sr h fun d v Hf1 H1 _ g1 sr1 rv h1=>?_)
  split at h1
  ·rename_i hf
   have z5':=z5.mono g1.fz
   have hl:xs.length<sizeLine:=by
    have h1:=of_decide_eq_true hf
    have h2:=sizeLine_eq
    rw[<-z5.length,h2];lia
   refine⟨p,xs,v,rfl,rfl,g1.all _ _ z4,hl,?_⟩
   exact h1 _ Hf1 _ (Same.refl _) (sr1.change ei rfl z1 rfl ⟨_,Zn,z5'.append (Reps.cons rv Reps.nil)⟩)
  ·exact h1.elim
 ·exact h.elim
def sRetO (i:Nat)(sd:DSt):M O:=match sd[i]? with
 |some (some (.ow ds))=>.ok (.rt (.ow ds))
 |_=>.bad
theorem psd_retO (i:Nat){x:Str}{p1:Pos}(hi:X.N[i]?=some x:=by rfl)(hv:Vis X.env.scope x:=by first|exact Or.inl rfl|exact Or.inr (Or.inl rfl)|exact Or.inr (Or.inr rfl))
  (hd:(x==("__debug__" : Str))=false:=by decide) (hcd:(x==("__classdict__" : Str))=false:=by decide):PSd X E (.Return (some (.Name x p1)) pos) (sRetO i):=by
 refine⟨_,ps_ret (Z8 hi hv hd hcd),fun H0 B Hf sd σ H D sr h=>?_⟩
 unfold sRetO at h
 split at h
 ·rename_i ds ei
  obtain⟨p,z1,z2,z3,z4⟩:=sr.ow i _ ei rfl
  exact⟨_,z1,h _ Hf H (Same.refl _) sr.fin ⟨p,rfl,z2,z3,z4⟩⟩
 ·exact h.elim
def frz (i:Nat)(sd:DSt):DSt:=match sd[i]? with
 |some (some (.ow ds))=>sd.set i (some (.im (.lst ds)))
 |_=>sd
def sFrz (i:Nat)(f:DSt->M O)(sd:DSt):M O:=f (frz i sd)
theorem psd_frz (i:Nat){st:List Stmt}{f:DSt->M O}(h:PSsd X E st f):PSsd X E st (sFrz i f):=by
 obtain⟨t,p,q⟩:=h
 refine⟨t,p,fun H0 B Hf sd σ H D sr h=>?_⟩
 unfold sFrz frz at h
 split at h
 ·rename_i ds ei
  obtain⟨Hf',e,sr'⟩:=sr.freeze ei
  exact q H0 B Hf' _ σ H D sr' (PoS.weak e h)
 ·exact q H0 B Hf sd σ H D sr h
theorem any_reps {Xc:Cx}{pins:List (Addr×Obj)}{σ:L2.St}{H:Hp}{s:Shared}(I:Inv Xc pins σ H s)(dx:D)(e:Value->Bool)(he:∀d v u,Rep Xc.K H d v->RelV v u->e u=D.eq d dx) :
  ∀{ds:List D} {xs:List V} {us:List Value},Reps Xc.K H ds xs->Vals xs us->us.any e=ds.any fun d=>D.eq d dx
 |[],xs,us,r,v=>by
  rw[reps_nil.mp r] at v
  cases v
  rfl
 |d::ds,xs,us,r,v=>by
  obtain⟨x,xr,rfl,r1,r2⟩:=reps_cons.mp r
  cases v with
  |cons v1 v2=>rw[List.any_cons,List.any_cons,he d x _ r1 v1,any_reps I dx e he r2 v2]
theorem mem_reps {Xc:Cx}{H:Hp}{ds:List D}:∀{xs:List V} {us:List Value} {u:Value},Reps Xc.K H ds xs->Vals xs us->u∈us->∃d v,d∈ds/\Rep Xc.K H d v/\RelV v u:=by
 induction ds with
 |nil =>
  intro xs us u r v hu
  rw[reps_nil.mp r] at v
  cases v
  cases hu
 |cons d ds ih =>
  intro xs us u r v hu
  obtain⟨x,xr,rfl,r1,r2⟩:=reps_cons.mp r
  cases v with
  |cons v1 v2 =>
   rcases List.mem_cons.mp hu with rfl|hu
   ·exact⟨d,x,List.mem_cons_self,r1,v1⟩
   ·obtain⟨d',v',h1,h2,h3⟩:=ih r2 v2 hu
    exact⟨d',v',List.mem_cons_of_mem _ h1,h2,h3⟩
def inD (dx:D)(ds:List D):Bool:=ds.any fun d=>D.eq d dx
def rInD (K:PySem.W.Frag)(neg:Bool):R2:=fun x y H Q=>∃dx ds,Rep K H dx x/\(Rep K H (.lst ds) y\/Rep K H (.tup ds) y)/\D.deps ds<=60/\Q (.bl (if neg then !inD dx ds else inD dx ds)) H
theorem deps_mem:∀{ds:List D} {d:D},d∈ds->d.dep<=D.deps ds
 |e::ds,d,h=>by
  rw[D.deps]
  rcases List.mem_cons.mp h with rfl|h
  ·lia
  ·have:=deps_mem h;lia
open Classical in
theorem op_inD (hu:X.A.units+64<cLine):OpR X (compareOp .In) (rInD X.K false):=by
 intro pins s σ H x y v u Q I rx ry h
 obtain⟨dx,ds,hx,hy,hd,q⟩:=h
 let e:Value->Bool:=fun u=>decide (∃d v,Rep X.K H d v/\RelV v u/\D.eq d dx=true)
 have he:∀d v u,Rep X.K H d v->RelV v u->e u=D.eq d dx:=fun d v u r1 r2=>by
  cases z:D.eq d dx with
  |true=>exact decide_eq_true ⟨d,v,r1,r2,z⟩
  |false =>
   refine decide_eq_false ?_
   rintro⟨d',v',a1,a2,a3⟩
   have e1:v'=v:=RelV.inj a2 r2
   subst e1
   rw[rep_inj I d d' _ r1 a1,a3] at z
   cases z
 have each:∀{xs:List V} {us:List Value},Reps X.K H ds xs->Vals xs us->∀w∈us,SeqAt.EqAt X.A.in1 s w v (e w):=fun {xs us} r1 r2 w hw=>by
  obtain⟨d,z,m1,m2,m3⟩:=mem_reps r1 r2 hw
  rw[he d z w m2 m3]
  refine(cmp_at I d dx X.A.in1 z x w v ?_ m2 hx m3 rx).eq
  have:=deps_mem m1
  show X.A.units+1+_<_
  lia
 rcases hy with hy|hy
 ·obtain⟨p,xs,rfl,hp,hr⟩:=rep_lst.mp hy
  cases ry
  obtain⟨its,r,pl,hz⟩:=I.list hp
  refine SeqAt.in_listAt e pl.isList (fun w hw=>each hr r w (by simpa using hw)) ⟨.bl _,H,I,rfl,?_⟩
  rw[show its.toArray.any e=its.any e by simp,any_reps I dx e he hr r]
  exact q
 ·obtain⟨p,xs,rfl,hp,hr⟩:=Z2 hy
  cases ry
  obtain⟨its,r,pl,hz⟩:=I.tuple hp
  refine SeqAt.in_tupleAt e pl (fun w hw=>each hr r w (by simpa using hw)) ⟨.bl _,H,I,rfl,?_⟩
  rw[show its.toArray.any e=its.any e by simp,any_reps I dx e he hr r]
  exact q
open Classical in
theorem op_notinD (hu:X.A.units+64<cLine):OpR X (compareOp .NotIn) (rInD X.K true):=by
 intro pins s σ H x y v u Q I rx ry h
 obtain⟨dx,ds,hx,hy,hd,q⟩:=h
 let e:Value->Bool:=fun u=>decide (∃d v,Rep X.K H d v/\RelV v u/\D.eq d dx=true)
 have he:∀d v u,Rep X.K H d v->RelV v u->e u=D.eq d dx:=fun d v u r1 r2=>by
  cases z:D.eq d dx with
  |true=>exact decide_eq_true ⟨d,v,r1,r2,z⟩
  |false =>
   refine decide_eq_false ?_
   rintro⟨d',v',a1,a2,a3⟩
   have e1:v'=v:=RelV.inj a2 r2
   subst e1
   rw[rep_inj I d d' _ r1 a1,a3] at z
   cases z
 have each:∀{xs:List V} {us:List Value},Reps X.K H ds xs->Vals xs us->∀w∈us,SeqAt.EqAt X.A.in1 s w v (e w):=fun {xs us} r1 r2 w hw=>by
  obtain⟨d,z,m1,m2,m3⟩:=mem_reps r1 r2 hw
  rw[he d z w m2 m3]
  refine(cmp_at I d dx X.A.in1 z x w v ?_ m2 hx m3 rx).eq
  have:=deps_mem m1
  show X.A.units+1+_<_
  lia
 rcases hy with hy|hy
 ·obtain⟨p,xs,rfl,hp,hr⟩:=rep_lst.mp hy
  cases ry
  obtain⟨its,r,pl,hz⟩:=I.list hp
  refine SeqAt.notIn_listAt e pl.isList (fun w hw=>each hr r w (by simpa using hw)) ⟨.bl _,H,I,rfl,?_⟩
  rw[show its.toArray.any e=its.any e by simp,any_reps I dx e he hr r]
  exact q
 ·obtain⟨p,xs,rfl,hp,hr⟩:=Z2 hy
  cases ry
  obtain⟨its,r,pl,hz⟩:=I.tuple hp
  refine SeqAt.notIn_tupleAt e pl (fun w hw=>each hr r w (by simpa using hw)) ⟨.bl _,H,I,rfl,?_⟩
  rw[show its.toArray.any e=its.any e by simp,any_reps I dx e he hr r]
  exact q
def gIn:D->D->M D
 |x,.lst ds=>if D.deps ds<=60 then .ok (.bl (inD x ds)) else .bad
 |x,.tup ds=>if D.deps ds<=60 then .ok (.bl (inD x ds)) else .bad
 |_,_=>.bad
def gNotIn:D->D->M D
 |x,.lst ds=>if D.deps ds<=60 then .ok (.bl (!inD x ds)) else .bad
 |x,.tup ds=>if D.deps ds<=60 then .ok (.bl (!inD x ds)) else .bad
 |_,_=>.bad
theorem od_in (hu:X.A.units+64<cLine):OpD X E (compareOp .In) gIn:=by
 refine⟨_,op_inD hu,fun Hf H x y dx dy Q e rx ry q=>?_⟩
 unfold gIn at q
 split at q
 ·split at q
  ·rename_i hd
   exact⟨_,_,rx.mono e,.inl (ry.mono e),hd,Po.ret e q (rep_bl.mpr rfl)⟩
  ·exact q.elim
 ·split at q
  ·rename_i hd
   exact⟨_,_,rx.mono e,.inr (ry.mono e),hd,Po.ret e q (rep_bl.mpr rfl)⟩
  ·exact q.elim
 ·exact q.elim
theorem od_notin (hu:X.A.units+64<cLine):OpD X E (compareOp .NotIn) gNotIn:=by
 refine⟨_,op_notinD hu,fun Hf H x y dx dy Q e rx ry q=>?_⟩
 unfold gNotIn at q
 split at q
 ·split at q
  ·rename_i hd
   exact⟨_,_,rx.mono e,.inl (ry.mono e),hd,Po.ret e q (rep_bl.mpr rfl)⟩
  ·exact q.elim
 ·split at q
  ·rename_i hd
   exact⟨_,_,rx.mono e,.inr (ry.mono e),hd,Po.ret e q (rep_bl.mpr rfl)⟩
  ·exact q.elim
 ·exact q.elim
def D.isN:D->Bool
 |.non=>true
 |_=>false
def gIsN:D->D->M D
 |x,.non=>.ok (.bl x.isN)
 |_,_=>.bad
theorem isN_rep {K:PySem.W.Frag}{H:Hp}{d:D}{v:V}(r:Rep K H d v):decide (v=.non)=d.isN:=by
 cases d with
 |non=>rw[rep_non.mp r];rfl
 |bl b=>rw[rep_bl.mp r];rfl
 |int b=>rw[rep_int.mp r];rfl
 |str b=>rw[rep_str.mp r];rfl
 |tup b=>obtain⟨_,_,e,_⟩:=rep_tup.mp r;rw[e];rfl
 |lst b=>obtain⟨_,_,e,_⟩:=rep_lst.mp r;rw[e];rfl
theorem od_isN:OpD X E (compareOp .Is) gIsN:=by
 refine⟨_,op_isN,fun Hf H x y dx dy Q e rx ry q=>?_⟩
 unfold gIsN at q
 split at q
 ·exact⟨rep_non.mp ry,Po.ret e q (by rw[isN_rep rx];exact rep_bl.mpr rfl)⟩
 ·exact q.elim
end
section
variable {X:Cx} {pins:List (Addr×Obj)} {σ:L2.St} {H:Hp} {s:Shared} {h':Heap} {t':Nat} {fp:List Addr}
theorem _root_.L2.Inv.turnedT {T:Addr}{o:HO}(I:Inv X pins σ H s)(hf:∀b∈fp,FpOk X pins H b)(k:∀b u,b ∉ fp->s.heap.get? b=some u->h'.get? b=some u)(hT:s.heap.objs.size<=T)(new:ObjOk X.prog X.w (upd H T o) h' T o) :
  Inv X pins σ (upd H T o) { s with heap:=h',toks:=t' }:=by
 have hn:=I.hok.fresh hT
 have ne:∀b u,s.heap.get? b=some u->b≠T:=fun b u e=>Nat.ne_of_lt (Nat.lt_of_lt_of_le (Heap.lt_size e) hT)
 refine I.step (g':=s.gens) (d':=s.drawn) (ch:=fp) (fun b hb=>?_) (fun b u _ _ hc e _=>k b u hc e) (fun b u _ _ hc e _=>⟨u.slots,k b u hc e⟩) (fun b u _ e n=>by rw[Zj (ne b u e)];exact n) (fun b u hc e=>⟨u,k b u hc e⟩)
  (fun b xs e=>by rw[Zj (Zk e hn)];exact e) (fun b u xs e=>by rw[Zj (Zk e hn)];exact e) (fun b l c q e=>by rw[Zj (Zk e hn)];exact e) (fun m hm=>?_) (fun b u e=>?_) I.bare
 ·obtain⟨f0,f1,f2,f3,f4,f5⟩:=hf b hb
  exact⟨f3,f1,f4,f5⟩
 ·obtain⟨ob,es,ep,ho,r⟩:=hm
  exact⟨ob,es,ep,k _ ob (fun z=>(hf _ z).2.1 rfl) ho,r⟩
 ·by_cases hb:b=T
  ·subst hb;rw[Zn] at e;cases e;exact new
  ·rw[Zj hb] at e
   have nf:∀c v,H c=some v->c ∉ fp:=fun c v e z=>by rw[(hf c z).1] at e;cases e
   refine(I.hok b u e).stay (fun c v hc q=>k c v ?_ q) (fun c q=>by rw[Zj (Zk q hn)];exact q) (fun c xs q=>by rw[Zj (Zk q hn)];exact q) fun c _ _ q=>by rw[Zj (Zk q hn)];exact q
   rcases hc with rfl|hc
   ·exact nf _ _ e
   ·exact nf _ _ hc
theorem _root_.L2.Inv.turnedF (I:Inv X pins σ H s)(hf:∀b∈fp,FpOk X pins H b)(k:∀b u,b ∉ fp->s.heap.get? b=some u->h'.get? b=some u):Inv X pins σ H { s with heap:=h',toks:=t' }:=by
 refine I.step (g':=s.gens) (d':=s.drawn) (ch:=fp) (fun b hb=>?_) (fun b u _ _ hc e _=>k b u hc e) (fun b u _ _ hc e _=>⟨u.slots,k b u hc e⟩) (fun b u _ e n=>n) (fun b u hc e=>⟨u,k b u hc e⟩)
  (fun b xs e=>e) (fun b u xs e=>e) (fun _ _ _ _ e=>e) (fun m hm=>?_) (fun b u e=>?_) I.bare
 ·obtain⟨f0,f1,f2,f3,f4,f5⟩:=hf b hb
  exact⟨f3,f1,f4,f5⟩
 ·obtain⟨ob,es,ep,ho,r⟩:=hm
  exact⟨ob,es,ep,k _ ob (fun z=>(hf _ z).2.1 rfl) ho,r⟩
 ·have nf:∀c v,H c=some v->c ∉ fp:=fun c v e z=>by rw[(hf c z).1] at e;cases e
  refine(I.hok b u e).stay (fun c v hc q=>k c v ?_ q) (fun c q=>q) (fun c xs q=>q) fun _ _ _ q=>q
  rcases hc with rfl|hc
  ·exact nf _ _ e
  ·exact nf _ _ hc
end
structure ZA (z TI TO i1 i2:Addr):Prop where
 TIz:TI≠z
 TOz:TO≠z
 i1z:i1≠z
 i2z:i2≠z
 TITO:TI≠TO
 TIi1:TI≠i1
 TIi2:TI≠i2
 TOi1:TO≠i1
 TOi2:TO≠i2
 i12:i1≠i2
theorem za5 (n:Nat):ZA (n+4) (n+2) (n+3) n (n+1) :=
 ⟨Nat.ne_of_lt (by lia),Nat.ne_of_lt (by lia),Nat.ne_of_lt (by lia),Nat.ne_of_lt (by lia),Nat.ne_of_lt (by lia),Nat.ne_of_gt (by lia),Nat.ne_of_gt (by lia),Nat.ne_of_gt (by lia),Nat.ne_of_gt (by lia),Nat.ne_of_lt (by lia)⟩
section
variable {X:Cx} {E:XK} {pos p p2:Pos} {es:List Expr} {k:Nat}
def enumD (n:Nat):List D->List D
 |[]=>[]
 |d::r=>.tup [.int n,d]::enumD (n+1) r
theorem enumD_get:∀(ds:List D) (n i:Nat),(enumD n ds)[i]?=(ds[i]?).map fun d=>.tup [.int ((n+i:Nat):Int),d]
 |[],_,_=>by simp[enumD]
 |d::r,n,0=>by simp[enumD]
 |d::r,n,i+1=>by
  rw[enumD,List.getElem?_cons_succ,enumD_get r (n+1) i,List.getElem?_cons_succ]
  congr 1;funext d;congr 3;lia
def zipD:List D->List D->List D:=List.zipWith fun x y=>.tup [x,y]
theorem zipD_get (xs ys:List D)(i:Nat):(zipD xs ys)[i]?=match xs[i]?,ys[i]? with
  |some x,some y=>some (.tup [x,y])
  |_,_=>none:=by
 unfold zipD
 rw[List.getElem?_zipWith]
 cases xs[i]?<;>cases ys[i]?<;>rfl
end
def keyD:D->Option Key
 |.int i=>some (.inl i)
 |.str x=>some (.inr x)
 |_=>none
def keysD:List D->Option (List Key)
 |[]=>some []
 |d::r=>match keyD d,keysD r with
  |some k,some ks=>some (k::ks)
  |_,_=>none
theorem keyD_rep {K:PySem.W.Frag}{H:Hp}{d:D}{k:Key}{v:V}(e:keyD d=some k)(r:Rep K H d v):v=kV k:=by
 cases d with
 |int i=>cases e;exact rep_int.mp r
 |str x=>cases e;exact rep_str.mp r
 |non=>cases e
 |bl _=>cases e
 |tup _=>cases e
 |lst _=>cases e
theorem keysD_reps {K:PySem.W.Frag}{H:Hp}:∀{ds:List D} {ks:List Key} {vs:List V},keysD ds=some ks->Reps K H ds vs->vs=ks.map kV
 |[],ks,vs,e,r=>by cases e;rw[reps_nil.mp r];rfl
 |d::ds,ks,vs,e,r=>by
  obtain⟨x,xr,rfl,r1,r2⟩:=reps_cons.mp r
  unfold keysD at e
  split at e
  ·rename_i k ks' e1 e2
   cases e
   rw[keyD_rep e1 r1,keysD_reps e2 r2]
   rfl
  ·cases e
def putD {κ:Type}[DecidableEq κ](kvs:List (κ×D))(k:κ)(d:D):List (κ×D) :=
 if(kvs.any fun kv=>decide (kv.1=k))=true then kvs.map (fun kv=>if kv.1=k then(kv.1,d) else kv) else kvs++[(k,d)]
def hasD {κ:Type}[DecidableEq κ](kvs:List (κ×D))(k:κ):Bool:=kvs.any fun kv=>decide (kv.1=k)
section
variable {κ:Type} [DecidableEq κ]
variable {K:PySem.W.Frag} {H:Hp}
theorem RepKV.any {kvs:List (κ×D)}{ys:List (κ×V)}(r:RepKV K H kvs ys)(k:κ):(kvs.any fun kv=>decide (kv.1=k))=(ys.any fun kv=>decide (kv.1=k)):=by
 unfold RepKV at r
 induction r with
 |nil=>rfl
 |cons h t ih=>rw[List.any_cons,List.any_cons,ih,h.1]
theorem RepKV.repl {kvs:List (κ×D)}{ys:List (κ×V)}(r:RepKV K H kvs ys)(k:κ){d:D}{v:V}(h:Rep K H d v):RepKV K H (kvs.map fun kv=>if kv.1=k then(kv.1,d) else kv) (ys.map fun kv=>if kv.1=k then(kv.1,v) else kv):=by
 unfold RepKV at r ⊢
 induction r with
 |nil=>exact .nil
 | @cons p q ps qs hp t ih =>
  refine .cons ?_ ih
  show(if p.1=k then(p.1,d) else p).1=(if q.1=k then(q.1,v) else q).1/\Rep K H (if p.1=k then(p.1,d) else p).2 (if q.1=k then(q.1,v) else q).2
  by_cases hk:p.1=k
  ·rw[if_pos hk,if_pos (hp.1▸hk)];exact⟨hp.1,h⟩
  ·rw[if_neg hk,if_neg (fun z=>hk (hp.1.trans z))];exact hp
theorem RepKV.put {kvs:List (κ×D)}{ys:List (κ×V)}(r:RepKV K H kvs ys)(k:κ){d:D}{v:V}(h:Rep K H d v):RepKV K H (putD kvs k d) (putK ys k v):=by
 unfold putD putK
 rw[r.any k]
 split
 ·exact r.repl k h
 ·exact Paired.snoc r ⟨rfl,h⟩
theorem RepKV.length {kvs:List (κ×D)}{ys:List (κ×V)}(r:RepKV K H kvs ys):kvs.length=ys.length:=Paired.length r
end
section
variable {X:Cx} {E:XK} {pos p1 p2 pos':Pos} {key value:Expr} {x:Str}
def sDNewT (i:Nat)(sd:DSt):M O:=.ok (.nx (sd.set i (some (.od []))))
theorem psd_dnewT (i:Nat)(hN:X.N.Nodup)(hi:X.N[i]?=some x:=by rfl)(hx:Loc X.env.scope x:=by first|exact Or.inl rfl|exact Or.inr rfl)(hs:swapsWith (.Dict [] [] p2) (some (.Name x pos')) pos.line X.env=pure false:=by rfl)(hf:X.fn x=true\/X.env.scope.names.lookup x=some .local:=by first|exact .inl rfl|exact .inr rfl|assumption) :
  PSd X E (.Assign [.Name x pos'] (.Dict [] [] p2) pos) (sDNewT i):=by
 refine⟨_,ps_set hN hi hx pe_dnewT hs hf,fun H0 B Hf sd σ H D sr h=>?_⟩
 exact fun p hp=>h _ Hf _ (Same.refl _) (sr.set_own i hp rfl ⟨[],Zn,.nil⟩)
def dput:Option (Option S)->D->D->Option S
 |some (some (.od kvs)),.tup ds,v=>match keysD ds with
  |some ks=>if kvs.length<=1000000 then some (.od (putD kvs ks v)) else none
  |none=>none
 |some (some (.dk kvs)),k,v=>match keyD k with
  |some k=>if kvs.length<=1000000 then some (.dk (putD kvs k v)) else none
  |none=>none
 |_,_,_=>none
def dhas:Option (Option S)->D->Option Bool
 |some (some (.od kvs)),.tup ds=>(keysD ds).map (hasD kvs)
 |some (some (.dk kvs)),k=>(keyD k).map (hasD kvs)
 |_,_=>none
def isDct:Option (Option S)->Bool
 |some (some (.od _))=>true
 |some (some (.dk _))=>true
 |_=>false
theorem dct_own {o:Option (Option S)}(h:isDct o=true):∃t,o=some (some t)/\t.own=true:=by
 unfold isDct at h
 split at h
 ·exact⟨_,rfl,rfl⟩
 ·exact⟨_,rfl,rfl⟩
 ·cases h
theorem key_at {K:PySem.W.Frag}{Hf H:Hp}{ds:List D}{ks:List Key}{y:V}(e:keysD ds=some ks)(sub:Same Hf H)(r:Rep K Hf (.tup ds) y):∃b,y=.ref b/\H b=some (.tup (ks.map kV)):=by
 obtain⟨b,xs,rfl,hb,hr⟩:=rep_tup.mp r
 rw[keysD_reps e hr] at hb
 exact⟨b,rfl,sub _ _ hb⟩
theorem dhas_get {K:PySem.W.Frag}{Hf H:Hp}{t:S}{k:D}{y:V}{b:Bool}{p:Addr}(e:dhas (some (some t)) k=some b)(sub:Same Hf H)(a:S.at K Hf H p t)(r:Rep K Hf k y):∃o,DGet H p y o/\o.isSome=b:=by
 unfold dhas at e
 split at e
 ·rename_i kvs ds he
  cases he
  obtain⟨ys,h1,h2⟩:=a
  obtain⟨ks,e1,e2⟩:=Option.map_eq_some_iff.mp e
  obtain⟨b',rfl,hb⟩:=key_at e1 sub r
  refine⟨_,DGet.t h1 hb,?_⟩
  rw[<-e2,<-valV_any,<-h2.any];rfl
 ·rename_i kvs k' he
  cases he
  obtain⟨ys,h1,h2⟩:=a
  obtain⟨ks,e1,e2⟩:=Option.map_eq_some_iff.mp e
  rw[keyD_rep e1 r]
  refine⟨_,DGet.k h1,?_⟩
  rw[<-e2,<-valV_any,<-h2.any];rfl
 ·cases e
def sDPut (i:Nat)(fk fv:DSt->M D)(sd:DSt):M O:=if isDct sd[i]? then((fv sd).bind fun v=>(fk sd).bind fun k=>match dput sd[i]? k v with
 |some t=>.ok (.nx (sd.set i (some t)))
 |none=>.bad) else .bad
theorem psd_dput (i:Nat){fk fv:DSt->M D}(hu:X.A.units+64<cLine)(hk:PEd X E key fk)(hv:PEd X E value fv)(hi:X.N[i]?=some x:=by rfl)(hvis:Vis X.env.scope x:=by first|exact Or.inl rfl|exact Or.inr (Or.inl rfl)|exact Or.inr (Or.inr rfl))
  (hd:(x==("__debug__" : Str))=false:=by decide) (hcd:(x==("__classdict__" : Str))=false:=by decide) (hs:swapsWith value (some (.Subscript (.Name x p1) key pos')) pos.line X.env=pure false:=by rfl) :
  PSd X E (.Assign [.Subscript (.Name x p1) key pos'] value pos) (sDPut i fk fv):=by
 obtain⟨tk,pk,qk⟩:=hk
 obtain⟨tv,pv,qv⟩:=hv
 refine⟨_,ps_dput (by lia) (Z8 hi hvis hd hcd) pk pv hs,fun H0 B Hf sd σ H D sr h=>?_⟩
 unfold sDPut at h
 split at h
 case isFalse=>exact h.elim
 case isTrue hdc =>
 obtain⟨t,et,ot⟩:=dct_own hdc
 obtain⟨p,z1,z2,z3,z4⟩:=sr.ow i t et ot
 refine qv H0 B Hf sd σ H _ sr (PoS.bind sr h fun dv v Hf1 H1 _ g1 sr1 rv h1=>?_)
 refine⟨_,z1,?_⟩
 refine qk H0 B Hf1 sd σ H1 _ sr1 (PoS.bind sr1 h1 fun dk y Hf2 H2 _ g2 sr2 ry h2=>?_)
 obtain⟨p',z1',_,_,z4'⟩:=sr2.ow i t et ot
 rw[z1] at z1'
 cases z1'
 have rv2:=Rep.mono g2.fz rv
 have nl:∀{κ:Type} {kvs:List (κ×DL.D)} {ys:List (κ×V)},RepKV X.K Hf2 kvs ys->kvs.length<=1000000->ys.length<sizeLine:=fun {κ kvs ys} r hl=>by
  have:=Paired.length r
  have h2:=sizeLine_eq
  lia
 rw[et] at h2
 split at h2
 ·rename_i u eu
  cases t with
  |im d=>cases ot
  |xc x=>cases ot
  |fn x=>cases ot
  |ob a c r=>cases ot
  |fl a g q=>cases ot
  |ow ds=>simp[dput] at eu
  |od kvs =>
   obtain⟨ys,a1,a2⟩:=z4'
   cases dk with
   |tup ds =>
    unfold dput at eu
    dsimp only at eu
    split at eu
    ·rename_i ks ek
     split at eu
     ·rename_i hl
      cases eu
      obtain⟨b,rfl,hb⟩:=key_at ek sr2.sub ry
      exact⟨p,_,rfl,DPut.t a1 hb (nl a2 hl),h2 _ Hf2 _ (Same.refl _) (sr2.change et ot z1 rfl ⟨_,Zn,a2.put ks rv2⟩)⟩
     ·cases eu
    ·cases eu
   |non=>simp[dput] at eu
   |bl _=>simp[dput] at eu
   |int _=>simp[dput] at eu
   |str _=>simp[dput] at eu
   |lst _=>simp[dput] at eu
  |dk kvs =>
   obtain⟨ys,a1,a2⟩:=z4'
   have eu:(match keyD dk with
    |some k=>if kvs.length<=1000000 then some (S.dk (putD kvs k dv)) else none
    |none=>none)=some u:=eu
   split at eu
   ·rename_i ks ek
    split at eu
    ·rename_i hl
     cases eu
     rw[keyD_rep ek ry]
     exact⟨p,_,rfl,DPut.k a1 (nl a2 hl),h2 _ Hf2 _ (Same.refl _) (sr2.change et ot z1 rfl ⟨_,Zn,a2.put ks rv2⟩)⟩
    ·cases eu
   ·cases eu
 ·exact h2.elim
def eDIn (i:Nat)(fk:DSt->M D)(sd:DSt):M D:=if isDct sd[i]? then((fk sd).bind fun k=>match dhas sd[i]? k with
 |some b=>.ok (.bl b)
 |none=>.bad) else .bad
theorem din_core {H0:Hp}{B:Addr->Prop}{Hf:Hp}{sd:DSt}{σ:L2.St}{H:Hp}{Q:VK}{i:Nat}{fk:DSt->M D}{tk:TE}{g:Bool->Bool}(qk:∀(H0:Hp) (B:Addr->Prop) (Hf:Hp) (sd:DSt) (σ:L2.St) (H:Hp) (Q:VK),SR X.K H0 B Hf sd σ H->Po X.K E (rV X.K) Hf H (fk sd) Q->tk σ H Q)(sr:SR X.K H0 B Hf sd σ H)(hdc:isDct sd[i]?=true)(h:Po X.K E (rV X.K) Hf H ((fk sd).bind fun k=>match dhas sd[i]? k with
   |some b=>.ok (.bl (g b))
   |none=>.bad) Q):tk σ H fun y H1=>∃v,σ[i]?=some (some v)/\∃a o,v=.ref a/\DGet H1 a y o/\Q (.bl (g o.isSome)) H1:=by
 obtain⟨t,et,ot⟩:=dct_own hdc
 refine qk H0 B Hf sd σ H _ sr (Po.bind h fun dk y Hf1 H1 _ g1 ry h1=>?_)
 obtain⟨p,z1,z2,z3,z4⟩:=(sr.gr g1).ow i t et ot
 rw[et] at h1
 split at h1
 ·rename_i b eb
  obtain⟨o,d1,d2⟩:=dhas_get eb g1.sub z4 ry
  refine⟨_,z1,p,o,rfl,d1,?_⟩
  rw[d2]
  exact Po.ret (R:=rV X.K) g1.sub h1 (rep_bl.mpr rfl)
 ·exact h1.elim
end
def tView (i:Nat)(f:DSt->M Bool)(sd:DSt):M Bool:=match f (frz i sd) with
 |.ok b=>.ok b
 |_=>.bad
section
variable {X:Cx} {E:XK} {e:Expr}
theorem frz_sr {K:PySem.W.Frag}{H0 Hf H:Hp}{B:Addr->Prop}{sd:DSt}{σ:L2.St}(sr:SR K H0 B Hf sd σ H)(i:Nat):∃Hf',Same Hf Hf'/\SR K H0 B Hf' (frz i sd) σ H:=by
 unfold frz
 split
 ·rename_i ds ei
  exact sr.freeze ei
 ·exact⟨Hf,Same.refl _,sr⟩
theorem ptd_view (i:Nat){f:DSt->M Bool}(h:PTd X E e f):PTd X E e (tView i f):=by
 obtain⟨t,p,q⟩:=h
 refine⟨t,p,fun H0 B Hf sd σ H Q sr h=>?_⟩
 obtain⟨Hf',e1,sr'⟩:=frz_sr sr i
 refine q H0 B Hf' _ σ H Q sr' ?_
 unfold tView at h
 cases ef:f (frz i sd) with
 |ok d =>
  rw[ef] at h
  exact fun v Hf2 H2 g r=>h v Hf H2 ⟨Same.refl _,sr.sub.trans g.all,g.all,fun _ _ z=>z⟩ r
 |ex x=>rw[ef] at h;exact h.elim
 |bad=>rw[ef] at h;exact h.elim
end
def clOf (cells:List (Str×Addr)):List (Str×NameKind)->List (Str×Addr)->List (Str×Addr)
 |[],acc=>acc
 |(n,k)::r,acc=>if k==NameKind.free then(match cells.lookup n with
  |some c=>clOf cells r ((n,c)::acc)
  |none=>clOf cells r acc) else clOf cells r acc
theorem clOf_mem (cells:List (Str×Addr)):∀(names:List (Str×NameKind)) (acc:List (Str×Addr)),(∀p∈acc,cells.lookup p.1=some p.2)->∀p∈clOf cells names acc,cells.lookup p.1=some p.2
 |[],acc,h=>h
 |(n,k)::r,acc,h=>by
  unfold clOf
  split
  ·split
   ·rename_i c hc
    refine clOf_mem cells r _ fun p hp=>?_
    rcases List.mem_cons.mp hp with rfl|hp
    ·exact hc
    ·exact h p hp
   ·exact clOf_mem cells r acc h
  ·exact clOf_mem cells r acc h
theorem clOf_keep (cells:List (Str×Addr)):∀(names:List (Str×NameKind)) (acc:List (Str×Addr)),∀p∈acc,p∈clOf cells names acc
 |[],acc,p,h=>h
 |(n,k)::r,acc,p,h=>by
  unfold clOf
  split
  ·split
   ·exact clOf_keep cells r _ p (List.mem_cons_of_mem _ h)
   ·exact clOf_keep cells r acc p h
  ·exact clOf_keep cells r acc p h
theorem clOf_has (cells:List (Str×Addr)):∀(names:List (Str×NameKind)) (acc:List (Str×Addr)) (n:Str) (c:Addr),(n,NameKind.free)∈names->cells.lookup n=some c->(n,c)∈clOf cells names acc
 |[],_,_,_,h,_=>by cases h
 |(m,k)::r,acc,n,c,h,hc=>by
  unfold clOf
  rcases List.mem_cons.mp h with h|h
  ·cases h
   rw[if_pos (by decide),hc]
   exact clOf_keep cells r _ _ List.mem_cons_self
  ·split
   ·split
    ·exact clOf_has cells r _ n c h hc
    ·exact clOf_has cells r _ n c h hc
   ·exact clOf_has cells r _ n c h hc
theorem lookup_mem {β:Type}:∀{l:List (Str×β)} {n:Str} {c:β},l.lookup n=some c->(n,c)∈l:=fun h=>PySem.mem_of_lookup h
theorem lookup_some {β:Type}:∀{l:List (Str×β)} {n:Str} {c:β},(n,c)∈l->∃d,l.lookup n=some d
 |[],_,_,h=>by cases h
 |(m,d)::r,n,c,h=>by
  rw[List.lookup_cons]
  by_cases e:n=m
  ·subst e;exact⟨d,by simp⟩
  ·have e':(n==m)=false:=beq_eq_false_iff_ne.mpr e
   rw[e']
   rcases List.mem_cons.mp h with h|h
   ·cases h;exact absurd rfl e
   ·exact lookup_some h
theorem closure_eq {scope:Scope}{env:Env}(h:∀y∈scope.names,y.2=.free->∃c,env.cells.lookup y.1=some c):closureFor scope env=pure (clOf env.cells scope.names []):=by
 have key:∀(names:List (Str×NameKind)) (acc:List (Str×Addr)),(∀y∈names,y.2=.free->∃c,env.cells.lookup y.1=some c) ->
   (forIn names acc fun(x:Str×NameKind) (cs:List (Str×Addr))=>(do
    if x.2==.free then
     let c <-cellOf env x.1
     pure (ForInStep.yield ((x.1,c)::cs))
    else pure (ForInStep.yield cs):Sem _))=pure (clOf env.cells names acc):=by
  intro names
  induction names with
  |nil=>intro acc _;rfl
  |cons y r ih =>
   intro acc hy
   obtain⟨n,k⟩:=y
   rw[List.forIn_cons]
   unfold clOf
   by_cases hk:(k==NameKind.free)=true
   ·obtain⟨c,hc⟩:=hy (n,k) List.mem_cons_self (by simpa using hk)
    have e1:cellOf env n=pure c:=by unfold cellOf;rw[hc]
    simp only[hk,if_true,e1,hc,pure_bind]
    exact ih _ fun z hz=>hy z (List.mem_cons_of_mem _ hz)
   ·simp only[hk,Bool.false_eq_true,if_false,pure_bind]
    exact ih _ fun z hz=>hy z (List.mem_cons_of_mem _ hz)
 have e:=key scope.names [] h
 unfold closureFor
 simp only[bind_pure]
 exact e
theorem capN {X:Cx}{Nc:List Str}{n0:Nat}{caps:List Nat}{scope sc:Scope}(hsc:X.env.scope=sc)(hkf:sc.kind=.function)(hcell:∀y∈scope.names,y.2≠.cell)(hfree:∀y∈scope.names,y.2=.free->sc.names.lookup y.1=some .cell)(hcl:∀y∈scope.names,y.2=.free->∃c,X.env.cells.lookup y.1=some c)(hl:Nc.length=n0+caps.length)(hcap:∀(i j:Nat) (x:Str),Nc[n0+i]?=some x->caps[i]?=some j->X.N[j]?=some x/\scope.names.lookup x=some .free):CapOk X Nc n0 caps scope (clOf X.env.cells scope.names []):=by
 have frees:∀(l:List (Str×NameKind)) (y:Str),(∀p∈l,p.2≠.cell)->(∀p∈l,p.2=.free->sc.names.lookup p.1=some .cell) ->
   ((l.map fun(n,k)=>if(k==NameKind.free&&X.env.scope.kind==.function&&X.env.kindOf n==some .cell) then(n,NameKind.cell) else(n,k)).lookup y=some .cell\/(l.map fun(n,k)=>if(k==NameKind.free&&X.env.scope.kind==.function&&X.env.kindOf n==some .cell) then(n,NameKind.cell) else(n,k)).lookup y=some .free)->(y,NameKind.free)∈l:=by
  intro l y
  induction l with
  |nil=>intro _ _ e;rcases e with e|e<;>cases e
  |cons p r ih =>
   intro h1 h2 e
   obtain⟨n,k⟩:=p
   have c1:=h1 (n,k) List.mem_cons_self
   rw[List.map_cons,List.lookup_cons] at e
   have hfst:(if(k==NameKind.free&&X.env.scope.kind==.function&&X.env.kindOf n==some .cell) then(n,NameKind.cell) else(n,k)).1=n:=by split<;>rfl
   by_cases ey:y=n
   ·subst ey
    simp only[hfst,beq_self_eq_true] at e
    by_cases hk:k=.free
    ·subst hk;exact List.mem_cons_self
    ·have hk':(k==NameKind.free)=false:=beq_eq_false_iff_ne.mpr hk
     simp only[hk',Bool.false_and,Bool.false_eq_true,if_false] at e
     rcases e with e|e
     ·cases e;exact absurd rfl c1
     ·cases e;exact absurd rfl hk
   ·have ey':(y==n)=false:=beq_eq_false_iff_ne.mpr ey
    simp only[hfst,ey'] at e
    exact List.mem_cons_of_mem _ (ih (fun p hp=>h1 p (List.mem_cons_of_mem _ hp)) (fun p hp=>h2 p (List.mem_cons_of_mem _ hp)) e)
 refine⟨fun y c e=>clOf_mem _ _ [] (fun p hp=>by cases hp) _ (lookup_mem e),fun y e=>?_,fun i j x e1 e2=>?_,hl⟩
 ·have hm:=frees scope.names y hcell hfree e
  obtain⟨c,hc⟩:=hcl _ hm rfl
  obtain⟨d,hd⟩:=lookup_some (clOf_has X.env.cells scope.names [] y c hm hc)
  exact⟨d,hd⟩
 ·obtain⟨a1,a2⟩:=hcap i j x e1 e2
  have a3:=hfree _ (lookup_mem a2) rfl
  refine⟨a1,by rw[hsc];exact a3,?_⟩
  have rl:∀(l:List (Str×NameKind)),l.lookup x=some .free->(l.map fun(n,k)=>if(k==NameKind.free&&X.env.scope.kind==.function&&X.env.kindOf n==some .cell) then(n,NameKind.cell) else(n,k)).lookup x=some .cell:=by
   intro l
   induction l with
   |nil=>intro e;cases e
   |cons p r ih =>
    intro e
    obtain⟨n,k⟩:=p
    rw[List.map_cons,List.lookup_cons]
    rw[List.lookup_cons] at e
    have hfst:(if(k==NameKind.free&&X.env.scope.kind==.function&&X.env.kindOf n==some .cell) then(n,NameKind.cell) else(n,k)).1=n:=by split<;>rfl
    by_cases ex:x=n
    ·subst ex
     simp only[beq_self_eq_true] at e
     cases e
     have c3:X.env.kindOf x=some .cell:=by show X.env.scope.names.lookup x=_;rw[hsc];exact a3
     have c4:X.env.scope.kind=.function:=by rw[hsc];exact hkf
     simp only[hfst,beq_self_eq_true,c3,c4,Bool.and_true,if_true]
    ·have ex':(x==n)=false:=beq_eq_false_iff_ne.mpr ex
     simp only[ex'] at e
     simp only[hfst,ex']
     exact ih e
  exact rl _ a2
def capFB (sc names:List (Str×NameKind)):Bool:=names.all fun y=>!(decide (y.2=NameKind.free))||decide (sc.lookup y.1=some NameKind.cell)
theorem capF {sc scope:Scope}(h:capFB sc.names scope.names=true):∀y∈scope.names,y.2=.free->sc.names.lookup y.1=some .cell:=fun y hy hf=>by
 have:=List.all_eq_true.mp h y hy
 rw[Bool.or_eq_true] at this
 rcases this with z|z
 ·rw[decide_eq_true hf] at z;cases z
 ·exact of_decide_eq_true z
def capB (N:List Str)(names:List (Str×NameKind)):List Str->List Nat->Bool
 |x::xs,j::js=>decide (N[j]?=some x)&&decide (names.lookup x=some NameKind.free)&&capB N names xs js
 |_,_=>true
theorem capB_get {N:List Str}{names:List (Str×NameKind)}:∀{xs:List Str} {js:List Nat},capB N names xs js=true->∀(i j:Nat) (x:Str),xs[i]?=some x->js[i]?=some j->N[j]?=some x/\names.lookup x=some .free
 |[],_,_,i,_,_,e,_=>by simp at e
 |_::_,[],_,i,_,_,_,e=>by simp at e
 |x::xs,j::js,h,0,j',x',e1,e2=>by
  unfold capB at h
  rw[Bool.and_eq_true,Bool.and_eq_true] at h
  simp at e1 e2
  subst e1 e2
  exact⟨of_decide_eq_true h.1.1,of_decide_eq_true h.1.2⟩
 |x::xs,j::js,h,i+1,j',x',e1,e2=>by
  unfold capB at h
  rw[Bool.and_eq_true] at h
  exact capB_get h.2 i j' x' (by simpa using e1) (by simpa using e2)
theorem capB_ok {X:Cx}{N:List Str}{Nc:List Str}{n0:Nat}{caps:List Nat}{scope:Scope}(hN:X.N=N)(h:capB N scope.names (Nc.drop n0) caps=true) :
  ∀(i j:Nat) (x:Str),Nc[n0+i]?=some x->caps[i]?=some j->X.N[j]?=some x/\scope.names.lookup x=some .free:=fun i j x e1 e2=>by
 rw[hN]
 exact capB_get h i j x (by rw[List.getElem?_drop];exact e1) e2
section
variable {X:Cx} {E:XK} {pos p p1 p2:Pos} {a e:Expr} {x:Str}
def UnD (X:Cx)(E:XK)(f:Value->Sem Value)(g:D->M D):Prop :=
 ∃r,UnR X f r/\∀(Hf H:Hp) (x:V) (dx:D) (Q:VK),Same Hf H->Rep X.K Hf dx x->Po X.K E (rV X.K) Hf H (g dx) Q->r x H Q
def gNeg:D->M D
 |.int i=>.ok (.int (-i))
 |_=>.bad
theorem ud_neg:UnD X E (unaryOp .USub) gNeg:=by
 refine⟨_,un_neg,fun Hf H x dx Q e rx q=>?_⟩
 unfold gNeg at q
 split at q
 ·exact⟨_,rep_int.mp rx,Po.ret e q (rep_int.mpr rfl)⟩
 ·exact q.elim
def eUn (g:D->M D)(f:DSt->M D)(sd:DSt):M D:=(f sd).bind g
theorem pd_un {op:UnaryOp}{g:D->M D}{f:DSt->M D}(ho:UnD X E (unaryOp op) g)(h:PEd X E a f):PEd X E (.UnaryOp op a pos) (eUn g f):=by
 obtain⟨r,hr,qr⟩:=ho
 obtain⟨t,p,q⟩:=h
 refine⟨_,pe_un hr p,fun H0 B Hf sd σ H Q sr h=>?_⟩
 exact q H0 B Hf sd σ H _ sr (Po.bind h fun d v Hf1 H1 _ g1 rv h1=>qr Hf1 H1 v d Q g1.sub rv h1)
end
section
variable {X:Cx} {E:XK} {pos:Pos} {a b c:Expr}
def sBad (_:DSt):M O:=.bad
theorem psd_bad {st:Stmt}:PSd X E st sBad:=⟨_,ps_never,fun _ _ _ _ _ _ _ _ h=>h.elim⟩
end
def Nt (h:Heap)(a:Addr)(c:Value)(dx:Option Addr)(T:Addr)(fl:Value):Prop :=
 ∃oe vs,h.get? a=some oe/\oe.cls=c/\oe.dict=dx/\oe.data=.fields vs/\1<vs.size /\
  ((T=a/\vs[1]?=some .none)\/(T≠a/\vs[1]?=some (.ref T)/\∃oT ts,h.get? T=some oT/\oT.data=.fields ts/\ts[3]?=some fl))
structure Ch (fr:List Addr) (a T:Addr) (h h':Heap):Prop where
 keep:∀b o,b≠a->b≠T->b ∉ fr->h.get? b=some o->h'.get? b=some o
 slot:∀b o,b≠a->b≠T->h.get? b=some o->∃sl,h'.get? b=some { o with slots:=sl }
section
variable {M:Model} {A:Around} {E:Value->Shared->Prop} {s:Shared}
theorem entry_at {base:Heap}{env:Env}{outer:List Env}{L a:Addr}{oe:Obj}{vs:Array Value}{head:Value}{hadNext:Bool}{Q:Unit->Shared->Prop}(hA:A.frames=some (env::outer))(hF:s.heap.FunFrames base (env::outer))(hL:env.frame=some L)(ho:s.heap.get? a=some oe)(hv:oe.data=.fields vs)(hz:1<vs.size)(k:∀h' T,s.heap.objs.size<=T->Nt h' a oe.cls oe.dict T (rawInt L)->T≠a->Ch (frs (env::outer)) a a s.heap h'->Q () { s with heap:=h' }) :
  wpAny M A (do let p <-frameOf env;let pl <-entryPlaceOf L hadNext;let b <-EntryCells.newEntry head p .none (rawInt L) .none pl;setField (.ref a) 1 b) Q E s:=by
 have na:a ∉ (env::outer).filterMap (·.frame):=fun z=>by
  obtain⟨_,o,q,nf⟩:=hF.mem z
  rw[ho] at q;cases q;exact nf vs hv
 refine wpAny_bind (wpAny_frameOf_fun hA hF hL fun g sl=>?_)
 refine wpAny_bind (wpAny_entryPlaceOf fun pl hp=>?_)
 unfold EntryCells.newEntry newFields
 refine wpAny_bind (wpAny_newObj_type ?_ (hp.sizeOk5 _ _ _ _ _))
 have ga:g.get? a=some oe:=(sl.2.1 a na).trans ho
 have nT:g.objs.size≠a:=Nat.ne_of_gt (Heap.lt_size ga)
 refine wpAny_setField (Heap.get?_push_of_some _ ga) hv hz ?_
 have zs:s.heap.objs.size<=g.objs.size:=by
  have:=sl.1
  lia
 have da:=Obj.data_mapFields hv (·.setIfInBounds 1 (Value.ref g.objs.size))
 refine k _ g.objs.size zs ⟨_,_,Heap.get?_update_self _ (Heap.get?_push_of_some _ ga) (Obj.isFreed_of_fields da),Obj.cls_mapFields _ _,?_,da,by simpa using hz,.inr ⟨nT,by simp[hz],_,_,(Heap.get?_update_other _ _ (Ne.symm nT)).trans (Heap.get?_push_size g rfl),rfl,?_⟩⟩ nT ⟨fun b o n1 n2 nf q=>?_,fun b o n1 n2 q=>?_⟩
 ·obtain⟨c,d,dt,sls⟩:=oe
  cases dt<;>first|rfl|cases hv
 ·first|(simp;done)|(rcases hp with rfl|⟨_,_,_,_,_,_,_,rfl⟩<;>simp)
 ·rw[Heap.get?_update_other _ _ (Ne.symm n1)]
  exact Heap.get?_push_of_some _ ((sl.2.1 b nf).trans q)
 ·obtain⟨x,e⟩:=sl.2.2 b o q
  exact⟨x,by rw[Heap.get?_update_other _ _ (Ne.symm n1)];exact Heap.get?_push_of_some _ e⟩
theorem note_at {base:Heap}{env:Env}{outer:List Env}{L a T:Addr}{c:Value}{dx:Option Addr}{Q:Unit->Shared->Prop}(hA:A.frames=some (env::outer))(hF:s.heap.FunFrames base (env::outer))(hL:env.frame=some L)(hn:Nt s.heap a c dx T .none)(k:∀h' T',s.heap.objs.size<=T'->Nt h' a c dx T' (rawInt L)->T'≠a->Ch (frs (env::outer)) a T s.heap h'->Q () { s with heap:=h' }):wpAny M A (noteFrame (.ref a) env) Q E s:=by
 obtain⟨oe,vs,ho,hc,hdx,hv,hz,hcase⟩:=hn
 subst hc hdx
 unfold noteFrame
 simp only[hL]
 rcases hcase with⟨rfl,h1⟩|⟨nT,h1,oT,ts,hT,hts,h3⟩
 ·refine wpAny_bind (wpAny_field ho hv h1 ?_)
  rw[if_neg (by decide)]
  exact entry_at hA hF hL ho hv hz k
 ·refine wpAny_bind (wpAny_field ho hv h1 ?_)
  rw[if_pos (show(Value.ref T != Value.none)=true from by simp)]
  refine wpAny_bind (wpAny_field hT hts h3 ?_)
  rw[if_neg (show ¬((Value.none==rawInt L)=true) from by simp[rawInt])]
  refine wpAny_bind (wpAny_setField hT hts (Array.getElem?_eq_some_iff.mp h3).1 ?_)
  have oth:∀b,b≠T->(s.heap.update T (Obj.mapFields (·.setIfInBounds 3 Value.none))).get? b=s.heap.get? b:=fun b nb=>Heap.get?_update_other _ _ (Ne.symm nb)
  have nofr:∀b o,s.heap.get? b=some o->(∀ws,o.data≠.fields ws)->b≠T:=fun b o e nf z=>by
   rw[z,hT] at e;cases e;exact nf ts hts
  refine entry_at hA (hF.of_keeps fun b o e nf=>⟨o,(oth b (nofr b o e nf)).trans e,rfl⟩) hL ((oth a (Ne.symm nT)).trans ho) hv hz fun h' T' z n1 n2 n3=>k h' T' ?_ n1 n2 ⟨fun b o b1 b2 bf e=>n3.keep b o b1 b1 bf ((oth b b2).trans e),fun b o b1 b2 e=>n3.slot b o b1 b1 ((oth b b2).trans e)⟩
  have:=Heap.size_after_update s.heap T (Obj.mapFields (·.setIfInBounds 3 Value.none))
  show s.heap.objs.size<=T'
  have z':(s.heap.update T (Obj.mapFields (·.setIfInBounds 3 Value.none))).objs.size<=T':=z
  lia
theorem flight_at {a T:Addr}{c fl:Value}{dx:Option Addr}{Q:Unit->Shared->Prop}(hn:Nt s.heap a c dx T fl)(nT:T≠a)(k:∀h',h'.objs.size=s.heap.objs.size->Nt h' a c dx T .none->(∀b,b≠T->h'.get? b=s.heap.get? b)->Q () { s with heap:=h' }):wpAny M A (setFlight (.ref a) none) Q E s:=by
 obtain⟨oe,vs,ho,hc,hdx,hv,hz,hcase⟩:=hn
 rcases hcase with⟨e,_⟩|⟨_,h1,oT,ts,hT,hts,h3⟩
 ·exact absurd e nT
 have z3:=(Array.getElem?_eq_some_iff.mp h3).1
 refine wpAny_setFlight_none ho hv h1 hT hts z3 ?_
 have oth:∀b,b≠T->(s.heap.update T (Obj.mapFields (·.setIfInBounds 3 Value.none))).get? b=s.heap.get? b:=fun b nb=>Heap.get?_update_other _ _ (Ne.symm nb)
 have dT:=Obj.data_mapFields hts (·.setIfInBounds 3 Value.none)
 exact k _ (Heap.size_after_update _ _ _) ⟨oe,vs,(oth a (Ne.symm nT)).trans ho,hc,hdx,hv,hz,.inr ⟨nT,h1,_,_,Heap.get?_update_self _ hT (Obj.isFreed_of_fields dT),dT,by simp[Array.getElem?_setIfInBounds,z3]⟩⟩ oth
theorem leave_at {base:Heap}{env:Env}{outer:List Env}{L a T:Addr}{c:Value}{dx:Option Addr}{Q:Unit->Shared->Prop}(hA:A.frames=some (env::outer))(hF:s.heap.FunFrames base (env::outer))(hL:env.frame=some L)(hn:Nt s.heap a c dx T .none)(k:∀h' T',s.heap.objs.size<=T'->Nt h' a c dx T' .none->Ch (frs (env::outer)) a T s.heap h'->Q () { s with heap:=h' }):wpAny M A (leaving env (.ref a)) Q E s:=by
 unfold leaving
 refine wpAny_bind (note_at hA hF hL hn fun h' T' z n1 n2 n3=>?_)
 refine flight_at (s:={ s with heap:=h' }) n1 n2 fun h2 _ n4 oth=>?_
 exact k h2 T' z n4 ⟨fun b o b1 b2 bf e=>(oth b (Nat.ne_of_lt (Nat.lt_of_lt_of_le (Heap.lt_size e) z))).trans (n3.keep b o b1 b2 bf e),fun b o b1 b2 e=>by
  obtain⟨sl,q⟩:=n3.slot b o b1 b2 e
  exact⟨sl,(oth b (Nat.ne_of_lt (Nat.lt_of_lt_of_le (Heap.lt_size e) z))).trans q⟩⟩
end
theorem hok_ch {P:Program}{w:World}{H:Hp}{h h':Heap}{fr:List Addr}{a T:Addr}(x:HOk P w H h)(c:Ch fr a T h h')(na:H a=none)(nT:H T=none)(nf:∀b∈fr,H b=none):HOk P w H h':=fun b u e=>by
 have ne:∀d v,H d=some v->d≠a/\d≠T/\d ∉ fr:=fun d v q=>⟨fun z=>(by rw[z,na] at q;cases q),fun z=>(by rw[z,nT] at q;cases q),fun z=>(by rw[nf d z] at q;cases q)⟩
 refine(x b u e).stay (fun d v hd q=>?_) (fun _ q=>q) (fun _ _ q=>q) fun _ _ _ q=>q
 have z:d≠a/\d≠T/\d ∉ fr:=by
  rcases hd with rfl|hd
  ·exact ne _ _ e
  ·exact ne _ _ hd
 exact c.keep d v z.1 z.2.1 z.2.2 q
def CX1 (P:Program)(w:World):CXT:=fun outer H s E e s'=>∃a H' c dx T,e=.ref a/\s'.os=s.os/\AllBare s'.gens/\Un (frs outer) [] H H' s.heap s'.heap/\HOk P w H' s'.heap/\Nt s'.heap a c dx T .none /\
 H' a=none/\H' T=none/\s.heap.objs.size<=a/\s.heap.objs.size<=T/\E c dx H'
def Out (X:Cx)(E:XK):Prop:=∀(pins:List (Addr×Obj)) (σ:L2.St) (H:Hp) (s:Shared) (a:Addr) (c:Value) (dx:Option Addr) (T:Addr),Inv X pins σ H s->Nt s.heap a c dx T .none->H a=none->H T=none ->
 X.s₀.heap.objs.size<=a->X.s₀.heap.objs.size<=T->E c dx H->X.xe (.ref a) s
theorem Out.passes {X:Cx}{E:XK}(o:Out X E):Xl (CX1 X.prog X.w) X E:=by
 rintro pins σ H s e s' I ⟨a,H',c,dx,T,rfl,os,bare,un,hok,hn,na,nT,za,zT,q⟩
 exact o pins σ H' s' a c dx T (I.call' os un hok bare (fun b z=>absurd z (by simp))) hn na nT (Nat.le_trans I.sz za) (Nat.le_trans I.sz zT) q
theorem out_fn {P:Program}{w:World}{K:PySem.W.Frag}{mg:Str->Option Value}{base:Heap}{N:List Str}{qual:Str}{scope:Scope}{f:Addr}{cd:Value}{A:Around}{outer:List Env}{s:Shared}{H:Hp}{E:XK} :
  Out (cxOf (CX1 P w) P w K mg base N qual scope f cd A outer s H E) E:=by
 intro pins σ H1 s1 a c dx T I hn na nT za zT q
 have ok:=I.ok
 show wpAny (model P w) (A.deeper (envOfC qual scope s.heap.objs.size f cd)) (leaving (envOfC qual scope s.heap.objs.size f cd) (.ref a)) _ _ s1
 refine leave_at (base:=base) ok.frames I.stack rfl hn fun h' T' z n1 n2=>?_
 have lt:∀{b:Addr} {o:Obj},s.heap.get? b=some o->b≠a/\b≠T/\b≠s.heap.objs.size:=fun {b o} e=>by
  have h1:=Heap.lt_size e
  have za':s.heap.objs.size<=a:=za
  have zT':s.heap.objs.size<=T:=zT
  exact⟨Nat.ne_of_lt (Nat.lt_of_lt_of_le h1 za'),Nat.ne_of_lt (Nat.lt_of_lt_of_le h1 zT'),Nat.ne_of_lt h1⟩
 have nfr:∀{b:Addr} {o:Obj},s.heap.get? b=some o->b ∉ frs outer->b ∉ frs (envOfC qual scope s.heap.objs.size f cd::outer):=fun {b o} e nf zz=>by
  rcases List.mem_cons.mp (I.stkSub b zz) with q1|q1
  ·exact(lt e).2.2 q1
  ·exact nf q1
 have ub:=I.base
 refine⟨a,H1,c,dx,T',rfl,I.os,I.bare,⟨fun b o e n nf nx=>?_,fun b o e n bf nx=>?_,fun b o e n nx=>ub.free b o e n nx,fun b o e nx=>?_,ub.tups,ub.frzs,ub.tbls⟩,hok_ch I.hok n2 na nT I.stkFree,n1,na,I.hok.fresh z,za,Nat.le_trans I.sz z,q⟩
 ·exact n2.keep b o (lt e).1 (lt e).2.1 (nfr e nf) (ub.keep b o e n nf nx)
 ·obtain⟨sl,e1⟩:=ub.slot b o e n bf nx
  obtain⟨sl',e2⟩:=n2.slot b _ (lt e).1 (lt e).2.1 e1
  exact⟨sl',e2⟩
 ·obtain⟨o',e1⟩:=ub.there b o e nx
  obtain⟨sl',e2⟩:=n2.slot b _ (lt e).1 (lt e).2.1 e1
  exact⟨_,e2⟩
def PoC (K:PySem.W.Frag)(Hf H:Hp)(r:M S)(Q:VK)(E:XK):Prop:=match r with
 |.ok s=>∀v Hf' H',Gr Hf H Hf' H'->RS K H Hf' H' s v->Q v H'
 |.ex x=>∀c dx Hf' H',Gr Hf H Hf' H'->RepX K Hf' H' x c dx->E c dx H'
 |.bad=>False
def spX (K:PySem.W.Frag)(F:List D->M S):Sp:=fun vs H Q E=>∃Hf ds,Same Hf H/\Reps K Hf ds vs/\PoC K Hf H (F ds) Q E
theorem fn_x {P:Program}{w:World}{K:PySem.W.Frag}{mg:Str->Option Value}{base:Heap}{x qual:Str}{st:Stmt}{f:Addr}{fd:FuncData}{N ps:List Str}{k m n:Nat}{fb:DSt->M O}(F:Fun K x qual st f fd)(sc:FnScope N ps (Zg st))(hn:ps.length=n)(hN:N.length=n+m)(hbody:∀(cdv:Value) (A:Around) (outer:List Env) (s:Shared) (H:Hp) (E:XK),Room k (A.deeper (envOfC qual (Zg st) s.heap.objs.size f cdv)) ->
   PSsd (cxOf (CX1 P w) P w K mg base N qual (Zg st) f cdv A outer s H E) E (Z7 st) fb):FnOk P w K mg base (CX1 P w) (k+1) f fd ps (spX K (fnD n m fb)):=by
 obtain⟨oc,od,kV,doc,pm,an,cdv,ct,osl,rfl,lk,hcd⟩:=F.ex
 refine fn_of lk hcd sc (fun vs H Q E h=>?_) (fun A outer s H vs Q E hr h=>?_)
 ·obtain⟨Hf,ds,e,r,hF⟩:=h
  unfold fnD at hF
  split at hF
  ·rename_i hl
   rw[<-r.length,hl,hn]
  ·exact hF.elim
 ·obtain⟨Hf,ds,e,r,q⟩:=h
  obtain⟨t,p,qt⟩:=hbody cdv A outer s H E hr
  unfold fnD at q
  split at q
  ·rename_i hl
   refine⟨t,p,qt H _ Hf _ (L2.Xe N vs) H _ (sr_start (N:=N) (m:=m) e r (by lia)) ?_⟩
   generalize fb (List.map (fun d=>some (S.im d)) ds++List.replicate m none)=ro at q
   have back:∀{Hf' H':Hp},Same Hf Hf'->Fin' H (fun a=>Lv H a/\Hf a=none) Hf' H'->Gr Hf H Hf' H':=fun e1 e2=>⟨e1,e2.sub,e2.all,fun a h1 h2=>e2.ban a ⟨h1,h2⟩⟩
   cases ro with
   |ok o =>
    cases o with
    |rt s2=>exact fun v Hf' H' e1 e2 e3=>q v Hf' H' (back e1 e2) e3
    |nx sd'=>exact fun σ' Hf' H' e1 sr'=>q .non Hf' H' (back e1 sr'.fin) (show Rep K Hf' .non .non from rep_non.mpr rfl)
    |bk sd'=>exact q.elim
    |ct sd'=>exact q.elim
   |ex x=>exact fun c dx Hf' H' e1 e2 e3=>q c dx Hf' H' (back e1 e2) e3
   |bad=>exact q.elim
  ·exact q.elim
theorem PoC.bind {K:PySem.W.Frag}{E:XK}{Hf H:Hp}{r:M S}{Q:VK}(h:Po K E (rV K) Hf H (r.bind S.toD) Q):PoC K Hf H r Q E:=by
 cases r with
 |bad=>exact h
 |ex x=>exact h
 |ok s =>
  cases s with
  |im d=>exact fun v Hf' H' g rv=>h v Hf' H' g rv
  |ow es =>
   rintro v Hf' H' g2 ⟨p,rfl,e1,e2,xs,e3,e4⟩
   refine h _ (upd Hf' p (.lst xs)) H' ⟨g2.fz.trans (Z1 e2 _),fun b u q=>?_,g2.all,fun a h1 h2=>?_⟩ (rep_lst.mpr ⟨p,xs,rfl,SqL.of Zn,e4.mono (Z1 e2 _)⟩)
   ·by_cases hb:b=p
    ·subst hb;rw[Zn] at q;rw[e3];exact q
    ·rw[Zj hb] at q;exact g2.sub b u q
   ·have:a≠p:=fun z=>h1.nn (z▸e1)
    rw[Zj this];exact g2.ban a h1 h2
  |od kvs=>exact h.elim
  |dk kvs=>exact h.elim
  |xc x=>exact h.elim
  |fn x=>exact h.elim
  |ob a c r=>exact h.elim
  |fl a g q=>exact h.elim
def eCallX (F:List D->M S)(fs:DSt->M (List D))(sd:DSt):M D:=(fs sd).bind fun ds=>(F ds).bind S.toD
section
variable {X:Cx} {E:XK} {pos:Pos} {a:Expr}
theorem pd_callX {k:Nat}{f:Addr}{fd:FuncData}{ps:List Str}{F:List D->M S}{x:Str}{p:Pos}{es:List Expr}{fs:DSt->M (List D)}(G:FnOk X.prog X.w X.K X.mg X.base (CX1 X.prog X.w) k f fd ps (spX X.K F))(hr:Room k X.A)(hm:X.mg x=some (.ref f))(hk:PySem.W.keepIn X.K (.ref f)=true)(hb:Binds X.K fd ps [])(ho:Out X E)(ha:PAd X E (a::es) fs)(hg:Gl X x:=by rfl) (hdb:(x==("__debug__" : Str))=false:=by decide) (he:starEach (a::es) X.env=(false,eval a X.env)::starEach es X.env:=by rfl) (hpl:(backTo pos (starEach es X.env)).any (·.1)=false:=by rfl) :
  PEd X E (.Call (.Name x p) (a::es) [] pos) (eCallX F fs):=by
 obtain⟨t,pt,qt⟩:=ha
 refine⟨_,pe_call (dvs:=[]) (E:=E) G hr hg hm hk hb .nil ho.passes pt hdb he hpl,fun H0 B Hf sd σ H Q sr h=>?_⟩
 refine qt H0 B Hf sd σ H _ sr (Po.bind h fun ds vs Hf1 H1 _ g1 rs h1=>?_)
 exact⟨Hf1,ds,g1.sub,by rw[List.append_nil];exact rs,PoC.bind h1⟩
end
end DL
namespace DL
open PySem PySem.Spec PySem.Calls PySem.Builtin PySem.Builtin.ObjectAttr PyProof.Rows L2 PySem.W
def exMro:List Value:=[.type "ValueError", .type "Exception", .type "BaseException", .type "object"]
def exOnly:List Value->Bool
 |[]=>false
 |.ref _::r=>exOnly r
 |l=>l==exMro
theorem exOnly_cases:∀{l:List Value},exOnly l=true->l=exMro\/∃c r,l=.ref c::r/\exOnly r=true
 |.ref c::r,e=>.inr ⟨c,r,rfl,e⟩
 |.type _::_,e=>.inl (beq_iff_eq.mp e)
 |.none::_,e=>.inl (beq_iff_eq.mp e)
 |.bool _::_,e=>.inl (beq_iff_eq.mp e)
 |.int _ _::_,e=>.inl (beq_iff_eq.mp e)
 |.str _ _::_,e=>.inl (beq_iff_eq.mp e)
 |[],e=>nomatch e
 |v::r,e=>by
  cases v<;>first|exact .inr ⟨_,_,rfl,e⟩|exact .inl (beq_iff_eq.mp e)
theorem ex_pass (self:Value){l:List Value}(e:exOnly l=true):refuseLoop self "__setattr__" l=pure ():=by
 induction l with
 |nil=>cases e
 |cons v r ih =>
  rcases exOnly_cases e with q|⟨c,r',q,e'⟩
  ·rw[q];exact PySem.F.store_ValueError.passes self
  ·cases q
   rw[refuseLoop_ref]
   exact ih e'
theorem ex_has {T:Value}(hT:exMro.contains T=true){l:List Value}(e:exOnly l=true):l.contains T=true:=by
 induction l with
 |nil=>cases e
 |cons v r ih =>
  rcases exOnly_cases e with q|⟨c,r',q,e'⟩
  ·rw[q];exact hT
  ·cases q
   rw[List.contains_cons,ih e',Bool.or_true]
structure XCls (K:Frag) (C:Addr):Prop where
 sa:findIn K (.ref C) "__setattr__" = some (some (.builtin "object.__setattr__"))
 ga:findIn K (.ref C) "__getattribute__" = some (some (.builtin "BaseException.__getattribute__"))
 gn:findIn K (.ref C) "__getattr__" = some none
 hd:hasDictIn K C=true
 ov:(clsIn K C).any (fun cd=>exOnly cd.mro)=true
section
variable {prog:Program} {w:World} {A:Around} {s:Shared} {K:Frag} {x C:Addr} {name:Str} {v:Value} {R:Result->Shared->Prop}
theorem x_osa {ox:Obj}{od:Option Obj}{tk:Tok}(X:K.In s.heap)(I:PySem.W.InstAt s.heap x ox C od)(c:XCls K C)(ht:takerIn K C name=some none)(h:∀b,wpAny (model prog w) A.in1 (storeInOwnDict (.ref x) (.ref C) (.str name tk) name v b)
   (fun fin s'=>match fin with | .done f=>R (.ok f) s' | .again c'=>c'.quiet=true/\codeAny (model prog w) A c' R s') (fun e s'=>R (.error e) s') s) :
  codeAny (model prog w) A (.call (.builtin "object.__setattr__") ⟨[.ref x,.str name tk,v],[]⟩) R s:=by
 have SF:=PySem.F.store_object
 obtain⟨cd,hc,ho⟩:=any_some c.ov
 have ne:cd.mro.isEmpty=false:=by
  cases q:cd.mro with
  |nil=>rw[q] at ho;cases ho
  |cons _ _=>rfl
 have sub:Looks (model prog w) s.heap (isInstance (.ref x) (.type "object")) true :=
  I.type.andThen (looks_mroIn X (by unfold mroIn;rw[hc,Option.bind_some,if_neg (by rw[ne];decide),ex_has (by decide +kernel) ho]))
 refine codeAny_call_builtin SF.slot.plain SF.entry (@check_slot (model prog w) _ _ s "object.__setattr__" "object" "__setattr__" (.ref x) [.str name tk,v] [] _ SF.kind SF.split sub (SF.args (.ref x) (.str name tk) v) ?_)
 obtain⟨attr,ha,hr⟩:=Option.bind_eq_some_iff.mp ht
 have hm:Looks (model prog w) s.heap (mroOf (.ref C)) cd.mro:=(looks_clsIn X hc).andThen .now
 have tk3:Looks (model prog w) s.heap (storeTaker? attr) none:=by
  cases attr with
  |none=>exact .now
  |some a =>
   obtain⟨b,hb,q⟩:=Option.map_eq_some_iff.mp hr
   refine(looks_takesIn X hb).andThen ?_
   cases b with
   |true=>cases q
   |false=>exact .now
 rw[osa_eq,refuse_eq]
 refine wpAny_bind (wpAny_bind (I.type.here (wpAny_bind (hm.here ?_))))
 rw[ex_pass _ ho]
 exact wpAny_pure (wpAny_bind (I.type.here (wpAny_bind ((looks_findIn X ha).here (wpAny_bind (tk3.here (h _)))))))
theorem x_set0 {E:Value->Shared->Prop}{vs:Array Value}{sl:Array (Option Value)}{Q:Unit->Shared->Prop}(X:K.In s.heap)(c:XCls K C)(hx:s.heap.get? x=some ⟨.ref C,none,.fields vs,sl⟩)(ht:takerIn K C name=some none)(h:∀h',h'.get? x=some ⟨.ref C,some s.heap.objs.size,.fields vs,sl⟩->h'.Ns1 s.heap.objs.size (fun y=>if y=name then some v else none)->(∀b o,b≠x->s.heap.get? b=some o->h'.get? b=some o) ->
   Q () { s with heap:=h',toks:=s.toks+2 }):wpAny (model prog w) A (setAttr (.ref x) name v) Q E s:=by
 have I:PySem.W.InstAt s.heap x ⟨.ref C,none,.fields vs,sl⟩ C none:=⟨hx,rfl,rfl,True.intro⟩
 refine set_plain X I c.sa (x_osa (s:={ s with toks:=s.toks+1 }) X I c ht fun b=>?_)
 obtain⟨cd,hc,hd'⟩:=any_some c.hd
 refine wpAny_bind (wpAny_pure (wpAny_bind (wpAny_bind (wpAny_loadPart hx (wpAny_bind (Looks.here (s:={ s with toks:=s.toks+1 }) (looks_clsIn X hc) ?_))))))
 rw[hd']
 have nx:x<s.heap.objs.size:=Heap.lt_size hx
 have e1:(s.heap.push { cls:=.type "dict", data:=.dict #[] }).get? x=some ⟨.ref C,none,.fields vs,sl⟩:=Heap.get?_push_of_some _ hx
 refine wpAny_bind (wpAny_alloc (wpAny_bind (wpAny_update e1 ?_)))
 refine wpAny_pure (a:=some s.heap.objs.size) (wpAny_bind (wpAny_pure (wpAny_bind ?_)))
 have n0:(s.heap.push { cls:=.type "dict", data:=.dict #[] }).Ns s.heap.objs.size (fun _=>none):=⟨_,#[],_,Heap.get?_push_size s.heap rfl,rfl,(fun e he=>absurd he (by simp)),fun _=>rfl⟩
 have n1:((s.heap.push { cls:=.type "dict", data:=.dict #[] }).update x fun o=>{ o with dict:=some s.heap.objs.size }).Ns1 s.heap.objs.size (fun _=>none) :=
  (Heap.Ns1.of_empty n0).at fun o q=>(Heap.get?_update_other _ _ (Nat.ne_of_lt nx)).trans q
 refine wpAny_nsSet1 (s:={ s with heap:=(s.heap.push { cls:=.type "dict", data:=.dict #[] }).update x fun o=>{ o with dict:=some s.heap.objs.size },toks:=s.toks+1 }) n1 fun h' hn2 hs2=>?_
 obtain⟨oD,esD,epD,hoD,hdD,hcD⟩:=hn2.count (PySem.Within.cons name v (ns:=[]) (fun y hy=>absurd rfl hy))
 refine wpAny_bind (wpAny_lookBehind hoD (by rw[hdD];exact pastItsLine_dict (Nat.le_trans hcD (by rw[List.length_cons];simp))) ?_)
 refine wpAny_pure (h _ ?_ hn2 fun b o nb e=>?_)
 ·exact(hs2.2 x (Nat.ne_of_lt nx)).trans (Heap.get?_update_self _ e1 rfl)
 ·have hb:b<s.heap.objs.size:=Heap.lt_size e
  exact(hs2.2 b (Nat.ne_of_lt hb)).trans ((Heap.get?_update_other _ _ (Ne.symm nb)).trans (Heap.get?_push_of_some _ e))
end
theorem push_back {h:Heap}{o v:Obj}{b:Addr}(nb:b≠h.objs.size)(q:(h.push o).get? b=some v):h.get? b=some v:=by
 obtain⟨q1,q2⟩:=(Heap.get?_eq_some _ _ _).1 q
 refine(Heap.get?_eq_some _ _ _).2 ⟨?_,q2⟩
 have q3:(h.objs.push o)[b]?=some v:=q1
 rw[Array.getElem?_push,if_neg nb] at q3
 exact q3
def XN (a C:Addr)(dx:Option Addr):HO:=.ext fun h=>∃t sl,h.get? a=some ⟨.ref C,dx,.fields #[.ref t,.none,.none,.none,.bool false,.none],sl⟩
theorem xn_ok {P:Program}{w:World}{H:Hp}{h:Heap}{a C t:Addr}{dx:Option Addr}{sl:Array (Option Value)}(e:h.get? a=some ⟨.ref C,dx,.fields #[.ref t,.none,.none,.none,.bool false,.none],sl⟩):ObjOk P w H h a (XN a C dx) :=
 ⟨⟨t,sl,e⟩,⟨_,e⟩,fun _ _ ⟨t',sl',e1⟩ k=>⟨t',sl',k _ e1⟩⟩
theorem xn_get {P:Program}{w:World}{H:Hp}{h:Heap}{a C:Addr}{dx:Option Addr}(hk:HOk P w H h)(e:H a=some (XN a C dx)):∃t sl,h.get? a=some ⟨.ref C,dx,.fields #[.ref t,.none,.none,.none,.bool false,.none],sl⟩:=(hk a _ e).1
section
variable {X:Cx} {pins:List (Addr×Obj)} {σ:L2.St} {H:Hp} {s:Shared} {a C:Addr} {f:Str} {y:V} {u:Value} {A:Around} {E:Value->Shared->Prop}
theorem xset_ok {Q:Unit->Shared->Prop}(I:Inv X pins σ H s)(e:H a=some (XN a C none))(c:XCls X.K C)(n:NoAttr X.K C f)(ry:RelV y u)(h:∀dx s',H dx=none->dx≠a->Inv X pins σ (upd (upd H dx (.xd [(f,y)])) a (XN a C (some dx))) s'->Q () s'):wpAny (model X.prog X.w) A (setAttr (.ref a) f u) Q E s:=by
 obtain⟨t,sl,ea⟩:=xn_get I.hok e
 have la:a<s.heap.objs.size:=Heap.lt_size ea
 have hf:=I.hok.fresh (Nat.le_refl s.heap.objs.size)
 refine x_set0 I.kIn c ea n.taker fun h' e1 e2 e3=>h s.heap.objs.size _ hf (Nat.ne_of_gt la) ?_
 obtain⟨od,es,ep,g1,g2⟩:=e2
 have I1:Inv X pins σ (upd H s.heap.objs.size (.xd [(f,y)])) { s with heap:=s.heap.push od,toks:=s.toks } :=
  I.laid (fun b v q=>Heap.get?_push_of_some _ q) (Nat.le_refl _) ⟨_,⟨od,es,ep,Heap.get?_push_size _ (by
   have:=g2.1
   obtain⟨c1,c2,c3,c4⟩:=od
   cases this
   rfl),g2⟩,fun g=>by
   show RelO (List.lookup g [(f,y)]) (if g=f then some u else none)
   by_cases q:g=f
   ·subst q
    simp only[List.lookup,beq_self_eq_true,if_pos]
    exact ry
   ·have hb:(g==f)=false:=beq_eq_false_iff_ne.mpr q
    simp only[List.lookup,hb,if_neg q]
    trivial⟩
 refine I1.write (x:=a) (e:=a) (h':=h') (t':=s.toks+2) (by rw[Zj (Nat.ne_of_lt la),e];exact True.intro) (.inl rfl) (fun b v nb q=>?_) ⟨_,e1⟩ (xn_ok e1)
 by_cases hb:b=s.heap.objs.size
 ·subst hb
  rw[Heap.get?_push_size _ (by
   have:=g2.1
   obtain⟨c1,c2,c3,c4⟩:=od
   cases this
   rfl)] at q
  cases q
  exact g1
 ·exact e3 b v nb (push_back hb q)
end
section
variable {X:Cx} {o value:Expr} {ta tv:TE} {f:Str} {pos pos':Pos}
def sX0 (K:Frag)(ta tv:TE)(f:Str):TS:=fun D σ H=>tv σ H fun y H1=>ta σ H1 fun x H2=>∃a C,x=.ref a/\H2 a=some (XN a C none)/\XCls K C/\NoAttr K C f /\
 ∀dx,H2 dx=none->dx≠a->D.nx σ (upd (upd H2 dx (.xd [(f,y)])) a (XN a C (some dx)))
theorem ps_x0 (ha:PE X o ta)(hv:PE X value tv)(hs:swapsWith value (some (.Attribute o f pos')) pos.line X.env=pure false:=by rfl):PS X (.Assign [.Attribute o f pos'] value pos) (sX0 X.K ta tv f):=by
 intro pins s σ H D I h
 refine plainObj_wpAny_Assign_Attribute (thn (hv pins s σ H _ I h) fun u s1 ⟨y,H1,I1,ry,q⟩=>thn (ha pins s1 σ H1 _ I1 q) fun ov s2 ⟨x,H2,I2,rx,a,C,ex,ea,c,n,q2⟩=>?_) hs
 subst ex
 obtain rfl:ov=Value.ref a:=rx
 exact xset_ok I2 ea c n ry fun dx s3 z1 z2 I3=>⟨σ,_,I3,q2 dx z1 z2⟩
end
def spI (C:Addr)(f:Str):Sp:=fun vs H Q _=>∃a y,vs=[.ref a,y]/\H a=some (XN a C none)/\∀dx,H dx=none->dx≠a->Q .non (upd (upd H dx (.xd [(f,y)])) a (XN a C (some dx)))
theorem fn_init {P:Program}{w:World}{K:Frag}{mg:Str->Option Value}{base:Heap}{x qual self p f:Str}{st:Stmt}{g C:Addr}{fd:FuncData}{p1 p2 p3 p4:Pos}(F:Fun K x qual st g fd)(sc:FnScope [self,p] [self,p] (Zg st))(hb:Z7 st=[.Assign [.Attribute (.Name self p1) f p2] (.Name p p3) p4])(c:XCls K C)(n:NoAttr K C f)(v1:Vis (Zg st) self)(v2:Vis (Zg st) p) (d1:(self==("__debug__" : Str))=false:=by decide) (d2:(p==("__debug__" : Str))=false:=by decide)
  (d3:(self==("__classdict__" : Str))=false:=by decide) (d4:(p==("__classdict__" : Str))=false:=by decide):FnOk P w K mg base CX0 1 g fd [self,p] (spI C f):=by
 refine F.ok sc (fun vs H Q E h=>?_) (fun cdv A outer s H vs Q E hr h=>?_)
 ·obtain⟨a,y,rfl,_⟩:=h
  rfl
 ·obtain⟨a,y,rfl,h1,h2⟩:=h
  rw[hb]
  refine⟨_,pss_one (ps_x0 (Z8 (i:=0) rfl v1 d1 d3) (Z8 (i:=1) rfl v2 d2 d4)),?_⟩
  exact⟨y,rfl,.ref a,rfl,a,C,rfl,h1,c,n,h2⟩
def exInit (K:Frag)(C fI:Addr):Bool:=match K.lookup C with
 |some ⟨.type "type", _,.cls cd,sl⟩=>(match cd.mro,sl.toList with
  |.ref C'::bm,[_,_,_,_,some (.builtin n),_]=>C'==C&&n == "ValueError.__new__" && !cd.hasDel&&tailIn K exMro bm&&nsOkIn K cd.ns&&nsIn K cd.ns "__init__" == some (some (.ref fI))
  |_,_=>false)
 |_=>false
theorem nsMap_some_of {K:Frag}{h:Heap}{N:Addr}{mg:Str->Option Value}{n:Str}{v:Value}(X:K.In h)(G:h.Ns N mg)(e:nsIn K N n=some (some v)):mg n=some v:=by
 obtain⟨o,es,ep,ho,hd,_,hf⟩:=G
 unfold nsIn at e
 split at e
 ·rename_i c d es' n' sl q
  have:=X _ _ q
  rw[ho] at this
  cases this
  cases hd
  split at e
  ·rename_i en he
   cases e
   rw[<-hf]
   unfold nsFind findBy
   rw[<-Array.find?_toList,he]
   rfl
  ·split at e<;>cases e
 ·cases e
structure XC (K:Frag) (C fI:Addr):Prop where
 at_:∃bm N nm qn bs hdct sn sub ab col dd k0 k1 k2 k3 k5,∀h:Heap,K.In h->h.get? C=some (excClassObj nm qn C N bs bm hdct sn sub ab col dd k0 k1 k2 k3 k5 "ValueError.__new__")/\OwnTail h exMro bm /\
  ∃mN,h.Ns N mN/\mN "__init__" = some (.ref fI)
theorem xc_of {K:Frag}{C fI:Addr}(q:exInit K C fI=true):XC K C fI:=by
 unfold exInit at q
 split at q
 ·rename_i dd cd sl ho
  split at q
  ·rename_i C' bm k0 k1 k2 k3 n k5 hm hs
   simp only[Bool.and_eq_true,beq_iff_eq,Bool.not_eq_true'] at q
   obtain⟨⟨⟨⟨⟨rfl,rfl⟩,hdel⟩,ht⟩,hok⟩,hni⟩:=q
   obtain⟨nm,bs,mro,ns,qn,hd,sn,sub,ab,col,del⟩:=cd
   dsimp only at hm hdel hok hni
   subst hm hdel
   have hsl:sl=#[k0,k1,k2,k3,some (.builtin "ValueError.__new__"),k5]:=by
    obtain⟨l⟩:=sl
    simp only at hs
    rw[hs]
   subst hsl
   exact⟨bm,ns,nm,qn,bs,hd,sn,sub,ab,col,dd,k0,k1,k2,k3,k5,fun h X=>⟨X _ _ ho,tail_of_in X ht,_,.of_isNs (isNs_of_in X hok),nsMap_some_of X (.of_isNs (isNs_of_in X hok)) hni⟩⟩
  ·cases q
 ·cases q
section
variable {prog:Program} {w:World} {A:Around} {E:Value->Shared->Prop} {h:Heap} {g:Array GenState} {d:Drawn} {t:Nat} {os:OsState}
variable {nm q:Str} {C N:Addr} {bs bm bmB:List Value} {hdct:Bool} {sn:List Str} {sub:List Value} {ab:Bool} {col:Option Bool} {dd:Option Addr} {k0 k1 k2 k3 k5:Option Value} {B newId initId:String}
abbrev tupO (rest:List Value):Obj:={ cls:=.type "tuple", data:=.seq rest.toArray }
abbrev excO (C t:Addr):Obj:={ cls:=.ref C,data:=.fields #[.ref t,.none,.none,.none,.bool false,.none] }
theorem x_type_call (FB:ExcBaseFacts B newId initId bmB)(T:OwnTail h bmB bm){mN:Str->Option Value}{rest:List Value}{fI:Addr}{oI:Obj}{Q:Fin->Shared->Prop}(hC:h.get? C=some (excClassObj nm q C N bs bm hdct sn sub ab col dd k0 k1 k2 k3 k5 newId))(hN:h.Ns N mN) (hI:mN "__init__" = some (.ref fI)) (ho:h.get? fI=some oI) (hf:oI.cls=.type "function")
  (k:wpAny (model prog w) A (call (.ref fI) (.ref (h.objs.size+1)::rest)) (fun r s'=>r=.none/\Q (.done (.ret (.ref (h.objs.size+1)))) s') E ⟨(h.push (tupO rest)).push (excO C h.objs.size),g,d,t,os⟩) (hz:rest.length<=sizeLine) :
  wpAny (model prog w) A (Builtin.«type.__call__» ⟨.ref C::rest,[]⟩) Q E ⟨h,g,d,t,os⟩:=by
 repeat (first|with_reducible refine wpAny_loadPart_at hC ?_|with_reducible refine wpAny_madeBy_exc hC ?_|wp_step)
 refine codeAny_call_builtin_code (Code.quiet_builtin _ FB.quiet) (wpAny_check_new_subT FB T hC ?_)
 refine codeAny_exc_new_subT FB T hC ?_ hz
 show wpAny _ _ _ _ _ _
 have up:∀{b:Addr} {o:Obj},h.get? b=some o->((h.push (tupO rest)).push (excO C h.objs.size)).get? b=some o:=fun e=>Heap.get?_push_of_some _ (Heap.get?_push_of_some _ e)
 have c1:=up hC
 have f1:=up ho
 have n1:((h.push (tupO rest)).push (excO C h.objs.size)).Ns N mN:=let ⟨o,es,ep,e,r⟩:=hN;⟨o,es,ep,up e,r⟩
 have x1:((h.push (tupO rest)).push (excO C h.objs.size)).get? (h.objs.size+1)=some (excO C h.objs.size):=by heap_get
 have cC:(Value.ref C::bm).contains (.ref C)=true:=by simp
 have t1:=T.keeps (h':=(h.push (tupO rest)).push (excO C h.objs.size)) fun b o e=>up e
 unfold isInstance
 repeat (first|with_reducible refine wpAny_loadPart_at x1 ?_|(with_reducible refine wpAny_isSubtype_exc c1 ?_;rw[cC])|wp_step)
 show wpAny _ _ (typeLookup (.ref C) _) _ _ _
 refine wpAny_typeLookup_tail c1 n1 t1 FB.mroIs FB.init.lookup ?_
 rw[hI]
 refine wpAny_holding (wpAny_bind ?_)
 unfold bindSpecial
 refine wpAny_bind (wpAny_typeOf (T := "function") ⟨_,f1,hf⟩ ?_)
 rw[if_pos (by decide)]
 refine wpAny_pure (wpAny_bind (wpAny_mono k (fun r s' hr=>?_) fun _ _ x=>x))
 obtain⟨rfl,hQ⟩:=hr
 wp_walk
 exact hQ
theorem x_call (FB:ExcBaseFacts B newId initId bmB)(T:OwnTail h bmB bm){mN:Str->Option Value}{rest:List Value}{fI:Addr}{oI:Obj}{Q:Value->Shared->Prop}(hC:h.get? C=some (excClassObj nm q C N bs bm hdct sn sub ab col dd k0 k1 k2 k3 k5 newId))(hN:h.Ns N mN) (hI:mN "__init__" = some (.ref fI)) (ho:h.get? fI=some oI) (hf:oI.cls=.type "function")
  (k:wpAny (model prog w) (A.under (.builtin "type.__call__" ⟨.ref C::rest,[]⟩)) (call (.ref fI) (.ref (h.objs.size+1)::rest)) (fun r s'=>r=.none/\Q (.ref (h.objs.size+1)) s') E ⟨(h.push (tupO rest)).push (excO C h.objs.size),g,d,t,os⟩) (hz:rest.length<=sizeLine) :
  wpAny (model prog w) A (call (.ref C) rest) Q E ⟨h,g,d,t,os⟩:=by
 have a1:=tc_lookup
 have a2:=tc_bind (.ref C)
 have a3:(⟨h,g,d,t,os⟩:Shared).TypeIs (.ref C) "type" := ⟨_,hC,rfl⟩
 refine wpAny_call (codeAny_of_tree ?_)
 show wpAny _ _ (callAny (.ref C) _) _ _ _
 repeat (any_goals (first|assumption|with_reducible refine wpAny_loadPart_at hC ?_|wp_step))
 refine⟨rfl,?_⟩
 exact codeAny_call_builtin_at (Code.quiet_builtin _ (by decide +kernel)) entry_typeCall (wpAny_check_type_call_sub hC (x_type_call FB T hC hN hI ho hf k hz))
end
section
variable {X:Cx} {k:Nat} {fI C:Addr} {fd:FuncData} {self p f x:Str} {np pos cpos:Pos} {e:Expr} {es:List Expr} {t:TA}
theorem run_x {pins:List (Addr×Obj)}{σ:L2.St}{H:Hp}{s:Shared}{Q:VK}{us:List Value}{v:V}(xc:XC X.K C fI)(fn:isFn X.K (.ref fI)=true)(F:FnOk X.prog X.w X.K X.mg X.base CX0 k fI fd [self,p] (spI C f))(hr:Room (k+1) X.A)(hb:Binds X.K fd [self,p] [])(I:Inv X pins σ H s)(r:Vals [v] us)(q:∀a dx,s.heap.objs.size<=a->H a=none->H dx=none->dx≠a->Q (.ref a) (upd (upd H dx (.xd [(f,v)])) a (XN a C (some dx)))) :
  wpAny (model X.prog X.w) X.A (call (.ref C) us) (EP X pins σ Q) X.xe s:=by
 obtain⟨bm,N,nm,qn,bs,hdct,sn,sub,ab,col,dd,k0,k1,k2,k3,k5,all⟩:=xc.at_
 obtain⟨hC,T,mN,hN,hI⟩:=all s.heap I.kIn
 have hfn:typeIn X.K (.ref fI)=some (.type "function"):=beq_iff_eq.mp fn
 obtain⟨oI,hoI,hcI⟩:=Option.map_eq_some_iff.mp hfn
 have lu:us.length=1:=r.length.symm
 obtain⟨hh,g,d,tk,os⟩:=s
 refine x_call PySem.F.excBase_ValueError T hC hN hI (I.kIn _ _ hoI) hcI ?_ (by rw[lu];decide)
 have I0:Inv X pins σ H ⟨hh.push (tupO us),g,d,tk,os⟩:=I.kept (h':=hh.push (tupO us)) (t':=tk) fun b u e=>Heap.get?_push_of_some _ e
 have sz:(hh.push (tupO us)).objs.size=hh.objs.size+1:=Heap.size_push _ _
 have ex:((hh.push (tupO us)).push (excO C hh.objs.size)).get? (hh.objs.size+1)=some (excO C hh.objs.size):=by
  rw[<-sz];exact Heap.get?_push_size _ rfl
 have I1:Inv X pins σ (upd H (hh.objs.size+1) (XN (hh.objs.size+1) C none)) ⟨(hh.push (tupO us)).push (excO C hh.objs.size),g,d,tk,os⟩ :=
  I0.laid (a:=hh.objs.size+1) (h':=(hh.push (tupO us)).push (excO C hh.objs.size)) (t':=tk) (fun b u e=>Heap.get?_push_of_some _ e) (Nat.le_of_eq sz) (xn_ok ex)
 have r2:Vals [V.ref (hh.objs.size+1),v] (Value.ref (hh.objs.size+1)::us):=.cons rfl r
 have hl:((Value.ref (hh.objs.size+1)::us)++[]).length=[self,p].length:=by simp[lu]
 have fa:H (hh.objs.size+1)=none:=I.hok.fresh (Nat.le_succ _)
 have sp:spI C f [V.ref (hh.objs.size+1),v] (upd H (hh.objs.size+1) (XN (hh.objs.size+1) C none)) (fun v2 H2=>v2=.non/\Q (.ref (hh.objs.size+1)) H2) E0:=by
  refine⟨_,v,rfl,Zn,fun dx z1 z2=>⟨rfl,?_⟩⟩
  have h1:H dx=none:=by rw[Zj z2] at z1;exact z1
  have e2:upd (upd (upd H (hh.objs.size+1) (XN (hh.objs.size+1) C none)) dx (.xd [(f,v)])) (hh.objs.size+1) (XN (hh.objs.size+1) C (some dx))=upd (upd H dx (.xd [(f,v)])) (hh.objs.size+1) (XN (hh.objs.size+1) C (some dx)):=by
   funext b
   unfold upd
   by_cases b1:b=hh.objs.size+1
   ·simp only[if_pos b1]
   ·by_cases b2:b=dx
    ·simp only[if_neg b1,if_pos b2]
    ·simp only[if_neg b1,if_neg b2]
  rw[e2]
  exact q _ dx (Nat.le_succ _) fa h1 z2
 have bnd:=hb ⟨(hh.push (tupO us)).push (excO C hh.objs.size),g,d,tk,os⟩ (Value.ref (hh.objs.size+1)::us) I1.kIn hl
 rw[List.append_nil] at bnd
 refine wpAny_call (codeAny_mono (F.run _ X.stack _ _ ⟨Value.ref (hh.objs.size+1)::us,[]⟩ (Value.ref (hh.objs.size+1)::us) _ _ E0 (hr.make C us []) (I1.env0.make C us []) bnd r2 sp) fun rr s' hq'=>?_)
 cases rr with
 |error e=>exact False.elim hq'
 |ok fl =>
  cases fl with
  |ret u =>
   obtain⟨v2,H',I3,rv,ev,q3⟩:=I1.after hq'
   subst ev
   exact⟨rv,⟨V.ref (hh.objs.size+1),H',I3,rfl,q3⟩⟩
  |next=>exact False.elim hq'
  |brk=>exact False.elim hq'
  |cont=>exact False.elim hq'
end
theorem forget_ext {X:Cx}{pins:List (Addr×Obj)}{σ:L2.St}{H:Hp}{s:Shared}{a:Addr}{φ:Heap->Prop}(I:Inv X pins σ (upd H a (.ext φ)) s)(ha:H a=none)(h0:X.s₀.heap.objs.size<=a):Inv X pins σ H s:=by
 have dn:∀b o,H b=some o->upd H a (.ext φ) b=some o:=fun b o q=>by rw[Zj (Zk q ha)];exact q
 have up:∀b o,upd H a (.ext φ) b=some o->(∀ψ,o≠.ext ψ)->H b=some o:=fun b o q n=>by
  by_cases hb:b=a
  ·subst hb;rw[Zn] at q;cases q;exact absurd rfl (n φ)
  ·rwa[Zj hb] at q
 have nn:∀b,upd H a (.ext φ) b=none->H b=none:=fun b q=>by
  by_cases hb:b=a
  ·subst hb;exact ha
  ·rwa[Zj hb] at q
 have B:=I.base
 refine⟨I.ok,I.os,I.bare,⟨B.keep,B.slot,fun b o e n nx=>nn b (B.free b o e n nx),B.there,fun b xs e=>up b _ (B.tups b xs e) (fun _ q=>nomatch q),fun b o u e=>up b _ (B.frzs b o u e) (fun _ q=>nomatch q),fun b l c q e=>up b _ (B.tbls b l c q e) (fun _ z=>nomatch z)⟩,I.loc,I.cell,nn _ I.free,fun y c e=>nn _ (I.freeC y c e),fun q hq=>?_,fun b o e=>?_,I.len⟩
 ·obtain⟨p1,p2,p3⟩:=I.pin q hq
  exact⟨p1,nn _ p2,p3⟩
 ·exact(I.hok b o (dn b o e)).stay (fun _ _ _ q=>q) (fun c q=>up c _ q (fun _ z=>nomatch z)) (fun c xs q=>up c _ q (fun _ z=>nomatch z)) fun c _ _ q=>up c _ q (fun _ z=>nomatch z)
section
variable {M:Model} {A:Around} {E:Value->Shared->Prop} {s:Shared} {env:Env}
theorem x_raise {K:Frag}{C fI:Addr}{x:Sem Value}{Q:Flow->Shared->Prop}(xc:XC K C fI)(hh:A.handled=none)(h:wpAny M A x (fun v s₁=>∃a dx t sl,v=.ref a/\K.In s₁.heap/\s₁.heap.get? a=some ⟨.ref C,dx,.fields #[.ref t,.none,.none,.none,.bool false,.none],sl⟩/\E (.ref a) s₁) E s) :
  wpAny M A (raiseStmt env (some x) none) Q E s:=by
 obtain⟨bm,N,nm,qn,bs,hdct,sn,sub,ab,col,dd,k0,k1,k2,k3,k5,all⟩:=xc.at_
 unfold raiseStmt
 refine wpAny_bind (wpAny_mono h (fun v s₁ h₁=>?_) fun _ _ z=>z)
 obtain⟨a,dx,t,sl,rfl,KI,he,hE⟩:=h₁
 obtain⟨hC,T,_⟩:=all _ KI
 obtain⟨hp,g,d,tk,os⟩:=s₁
 have hB:(Value.ref C::bm).contains (.type "BaseException")=true:=by
  rw[List.contains_cons,T.hasType (show exMro.contains (.type "BaseException")=true by decide +kernel),Bool.or_true]
 repeat (first|with_reducible refine wpAny_loadPart_at he ?_|with_reducible refine wpAny_loadPart_at hC ?_|(with_reducible refine wpAny_isSubtype_exc hC ?_;rw[hB])|wp_step)
 exact wpAny_raiseNew_none hh hE
end
section
variable {X:Cx} {E:XK} {k:Nat} {fI C:Addr} {fd:FuncData} {self p f x:Str} {np pos cpos:Pos} {e:Expr} {es:List Expr} {t:TA}
def tRaise (C:Addr)(f:Str)(E:XK)(t:TA):TS:=fun _ σ H=>t σ H fun vs H1=>∃v,vs=[v]/\∀dx,H1 dx=none->E (.ref C) (some dx) (upd H1 dx (.xd [(f,v)]))
theorem ps_raise (o:Out X E)(hc:X.calm=true)(xc:XC X.K C fI)(kp:keepIn X.K (.ref C)=true)(fn:isFn X.K (.ref fI)=true)(F:FnOk X.prog X.w X.K X.mg X.base CX0 k fI fd [self,p] (spI C f))(hr:Room (k+1) X.A)(hb:Binds X.K fd [self,p] [])(hg:Gl X x)(hm:X.mg x=some (.ref C))(ha:PA X (e::es) t) (hdb:(x==("__debug__" : Str))=false:=by decide)
  (he:starEach (e::es) X.env=(false,eval e X.env)::starEach es X.env:=by rfl) (hpl:(backTo cpos (starEach es X.env)).any (·.1)=false:=by rfl) :
  PS X (.Raise (some (.Call (.Name x np) (e::es) [] cpos)) none pos) (tRaise C f E t):=by
 intro pins s σ H D I h
 rw[arm_exec_Raise]
 refine wpAny_bind (wpAny_standAt ?_)
 refine x_raise xc (I.ok.hd hc) ?_
 have core:wpAny (model X.prog X.w) X.A (eval (.Call (.Name x np) (e::es) [] cpos) X.env) (fun v s₁=>∃a dx t sl,v=.ref a/\X.K.In s₁.heap/\s₁.heap.get? a=some ⟨.ref C,dx,.fields #[.ref t,.none,.none,.none,.bool false,.none],sl⟩/\X.xe (.ref a) s₁) X.xe s:=by
  refine wpAny_Call_Name_kw (ld_glob I hg hm ?_ hdb)
  refine PySem.W.callWith_K (h₀:=X.base) I.ok.mod.kin kp (thn (ha cpos pins s σ H _ I h) fun us s1 ⟨vs,H1,I1,r,v,ev,q⟩=>⟨I1.kIn,?_⟩) he hpl
  subst ev
  refine thn (run_x (Q:=fun v2 H2=>∃a dx,v2=.ref a/\X.s₀.heap.objs.size<=a/\H1 a=none/\H1 dx=none/\dx≠a/\H2=upd (upd H1 dx (.xd [(f,v)])) a (XN a C (some dx))) xc fn F hr hb I1 r fun a dx z1 z2 z3 z4=>⟨a,dx,rfl,Nat.le_trans I1.sz z1,z2,z3,z4,rfl⟩) fun u s2 h2=>?_
  obtain⟨v2,H2,I2,r2,a,dx,rfl,z1,z2,z3,z4,rfl⟩:=h2
  obtain rfl:u=Value.ref a:=r2
  obtain⟨t',sl,e2⟩:=xn_get I2.hok (Zn)
  have na:upd H1 dx (.xd [(f,v)]) a=none:=by rw[Zj (Ne.symm z4)];exact z2
  have I3:Inv X pins σ (upd H1 dx (.xd [(f,v)])) s2:=forget_ext I2 na z1
  exact⟨a,some dx,t',sl,rfl,I3.kIn,e2,o pins σ _ s2 a (.ref C) (some dx) a I3 ⟨_,_,e2,rfl,rfl,rfl,by simp,.inl ⟨rfl,rfl⟩⟩ na na z1 z1 (q dx z3)⟩
 exact wpAny_bind (wpAny_mono core (fun v s₁ h₁=>wpAny_bind (wpAny_standAt (wpAny_pure h₁))) fun _ _ z=>z)
end
section
variable {X:Cx} {pins:List (Addr×Obj)} {σ:L2.St} {H:Hp} {s:Shared} {h':Heap} {a T C:Addr} {e:Value}
structure Fresh (X:Cx) (pins:List (Addr×Obj)) (b:Addr):Prop where
 lo:X.s₀.heap.objs.size<=b
 nl:b≠X.env.locals
 nc:∀x c,X.env.cells.lookup x=some c->c≠b
 np:∀p∈X.pn++pins,p.1≠b
theorem fresh_of (I:Inv X pins σ H s){b:Addr}(h:s.heap.objs.size<=b):Fresh X pins b where
 lo:=Nat.le_trans I.sz h
 nl:=Nat.ne_of_gt (Nat.lt_of_lt_of_le I.lt h)
 nc:=fun x c q=>by
  obtain⟨v,o,ho,_⟩:=I.cell x c q
  exact Nat.ne_of_lt (Nat.lt_of_lt_of_le (Heap.lt_size ho) h)
 np:=fun p hp=>Nat.ne_of_lt (Nat.lt_of_lt_of_le (Heap.lt_size (I.pin p hp).1) h)
theorem inv_ch (I:Inv X pins σ H s)(c:Ch (frs X.stack) a T s.heap h')(na:H a=none)(nT:H T=none)(fa:Fresh X pins a)(fT:Fresh X pins T):Inv X pins σ H { s with heap:=h' }:=by
 refine I.call (h':=h') (g':=s.gens) (d':=s.drawn) (t':=s.toks) (ch:=[a,T]) ⟨fun b o q n nf nx=>?_,fun b o q n bf nx=>?_,fun b o q n nx=>n,fun b o q nx=>?_,fun b xs q=>q,fun b o u q=>q,fun _ _ _ _ q=>q⟩ (hok_ch I.hok c na nT I.stkFree) I.bare fun b hb=>?_
 ·exact c.keep b o (fun z=>nx (by simp[z])) (fun z=>nx (by simp[z])) nf q
 ·exact c.slot b o (fun z=>nx (by simp[z])) (fun z=>nx (by simp[z])) q
 ·obtain⟨sl,z⟩:=c.slot b o (fun z=>nx (by simp[z])) (fun z=>nx (by simp[z])) q
  exact⟨_,z⟩
 ·rcases List.mem_cons.mp hb with rfl|hb
  ·exact⟨.inr fa.lo,fa.nl,fa.nc,fa.np⟩
  ·have:b=T:=by simpa using hb
   subst this
   exact⟨.inr fT.lo,fT.nl,fT.nc,fT.np⟩
def sui (X:Cx)(e:Value):Cx:={ X with A:=X.A.mark (some e),calm:=false,xe:=fun _ _=>False }
theorem ok_sui (ok:X.Ok):(sui X e).Ok :=
 ⟨ok.mod,ok.kind,ok.glob,ok.blt,ok.above,ok.inj,ok.has,ok.cab,(fun z=>nomatch z),ok.frames,ok.stk,ok.exf,ok.bs,ok.bsz,ok.noex,ok.exfs,ok.funs,ok.frf⟩
theorem inv_sui (I:Inv X pins σ H s):Inv (sui X e) pins σ H s:=⟨ok_sui I.ok,I.os,I.bare,I.base,I.loc,I.cell,I.free,I.freeC,I.pin,I.hok,I.len⟩
theorem inv_back (ok:X.Ok)(I:Inv (sui X e) pins σ H s):Inv X pins σ H s:=⟨ok,I.os,I.bare,I.base,I.loc,I.cell,I.free,I.freeC,I.pin,I.hok,I.len⟩
end
structure Hits (K:Frag) (C D:Addr):Prop where
 sub:subIn K (.ref C) (.ref D)=some true
 exc:subIn K (.ref D) (.type "BaseException")=some true
 ty:typeIn K (.ref D)=some (.type "type")
 tt:instIn K (.ref D) (.type "type")=some true
 nt:instIn K (.ref D) (.type "tuple")=some false
theorem x_hits {M:Model}{A:Around}{E:Value->Shared->Prop}{s:Shared}{K:Frag}{a C D:Addr}{oe:Obj}{Q:Bool->Shared->Prop}(X:K.In s.heap)(h:Hits K C D)(he:s.heap.get? a=some oe)(hc:oe.cls=.ref C)(hq:Q true s) :
  wpAny M A (excMatches (.ref a) (.ref D)) Q E s:=by
 have t1:Looks M s.heap (typeOf (.ref a)) (.ref C):=hc▸(Looks.ld he).andThen .now
 have t2:=looks_subIn (M:=M) X h.sub
 have t3:=looks_subIn (M:=M) X h.exc
 have t4:=looks_instIn (M:=M) X h.nt
 have t5:=looks_instIn (M:=M) X h.tt
 have hD:∃oc od cd sl,s.heap.get? D=some ⟨oc,od,.cls cd,sl⟩:=by
  obtain⟨cd,q,_⟩:=Option.bind_eq_some_iff.mp (show mroIn K D (.type "BaseException")=some true from h.exc)
  unfold clsIn at q
  split at q
  ·rename_i ho
   exact⟨_,_,_,_,X _ _ ho⟩
  ·cases q
 obtain⟨oc,od,cd,sl,hD⟩:=hD
 obtain⟨hp,g,d,tk,os⟩:=s
 unfold excMatches
 repeat (first|with_reducible refine t1.here ?_|with_reducible refine t2.here ?_|with_reducible refine t3.here ?_|with_reducible refine t4.here ?_|with_reducible refine t5.here ?_|with_reducible refine wpAny_loadPart_at hD ?_|wp_step)
 exact hq
section
variable {prog:Program} {w:World} {A:Around} {E:Value->Shared->Prop} {s:Shared} {K:Frag} {x C:Addr} {ox:Obj} {od:Option Obj} {name:Str} {tk:Tok} {v:Value} {R:Result->Shared->Prop}
structure XKit (K:Frag) (C:Addr):Prop where
 ha:findIn K (.ref C) "__class__" = some (some (.builtin "object.__class__"))
 hn:specialIn K (.builtin "object.__class__") "__get__" = some (some (.builtin "getset_descriptor.__get__"))
 ht:takesIn K (.builtin "object.__class__")=some true
 hm:mroIn K C (.type "object")=some true
end
section
variable {X:Cx} {E:XK} {pos p p2 p3:Pos} {vn cn f:Str}
structure XKnow (K:Frag) (y:Str) (C:Addr):Prop where
 at_:nsIn K mainGlobals y=some (some (.ref C))
 cl:XCls K C
 kt:XKit K C
end
end DL
namespace DL
open PySem PySem.Spec PyProof.Rows L2
def ItK (t:Bool)(h:Heap)(i l:Addr)(k:Nat):Prop:=∃o,h.get? i=some o/\o.cls=.type (if t then "tuple_iterator" else "list_iterator")/\o.data=.fields #[.ref l,.int k 0]
def SqK (t:Bool)(h:Heap)(l:Addr)(xs:Array Value):Prop:=∃o,h.get? l=some o/\o.cls=.type (if t then "tuple" else "list")/\∃n,o.data=.seq xs n
theorem ItK.at {t:Bool}{h h':Heap}{i l:Addr}{k:Nat}(x:ItK t h i l k)(q:∀o,h.get? i=some o->h'.get? i=some o):ItK t h' i l k:=let ⟨o,e,r⟩:=x;⟨o,q o e,r⟩
theorem SqK.at {t:Bool}{h h':Heap}{l:Addr}{xs:Array Value}(x:SqK t h l xs)(q:∀o,h.get? l=some o->h'.get? l=some o):SqK t h' l xs:=let ⟨o,e,r⟩:=x;⟨o,q o e,r⟩
section
variable {prog:Program} {w:World} {A:Around} {E:Value->Shared->Prop} {s:Shared}
theorem nextK_item {t:Bool}{it l:Addr}{i:Nat}{xs:Array Value}{x:Value}{Q:Value->Shared->Prop}(hi:ItK t s.heap it l i)(hl:SqK t s.heap l xs)(hx:xs[i]?=some x)(hQ:∀h',ItK t h' it l (i+1)->Heap.SameBut it s.heap h'->Q x { s with heap:=h' }):wpAny (model prog w) A (Builtin.SmallTypes.nextOf (.ref it)) Q E s:=by
 cases t with
 |false=>exact wpAny_nextOf_list_item (show s.heap.IsListIter it l i from hi) (show s.heap.IsList l xs from hl) hx hQ
 |true =>
  obtain⟨o,ho,hc,hd⟩:=id hi
  obtain⟨ol,hol,_,nl,hdl⟩:=hl
  have ty:s.TypeIs (.ref it) "tuple_iterator" := ⟨o,ho,hc⟩
  unfold Builtin.SmallTypes.nextOf
  refine wpAny_bind (wpAny_callSpecial?_slot (name:=Str.ofString "__next__") ty PyProof.Rows.slot_tupleiter_next (wpAny_call_entry PyProof.Rows.slot_tupleiter_next ty PyProof.Rows.entry_tupleiter_next ?_ (PyProof.Rows.args_tupleiter_next _)))
  refine wpAny_bind (m:=field (.ref it) 0) (wpAny_field ho hd (x:=.ref l) rfl ?_)
  dsimp only
  rw[if_neg (fun z:(Value.ref l==Value.none)=true=>Bool.false_ne_true z)]
  refine wpAny_bind (m:=field (.ref it) 1) (wpAny_field ho hd (x:=.int i 0) rfl (wpAny_bind (m:=seqItems? (.ref l)) (wpAny_seqItems hol hdl ?_)))
  simp only[Int.toNat_natCast,hx]
  refine wpAny_bind (wpAny_setField ho hd (by simp) (wpAny_pure ⟨x,rfl,wpAny_pure (hQ _ ⟨_,Heap.get?_update_self _ ho (Obj.isFreed_of_fields (Obj.data_mapFields hd _)),(Obj.cls_mapFields ..).trans hc,?_⟩ (Heap.SameBut.update ..))⟩))
  rw[Obj.data_mapFields hd];simp[rawInt]
theorem nextK_end {t:Bool}{it l:Addr}{i:Nat}{xs:Array Value}{Q:Value->Shared->Prop}(hh:A.handled=none)(hi:ItK t s.heap it l i)(hl:SqK t s.heap l xs)(hx:xs[i]?=none)
  (hE:∀h' e,Heap.ExtBut it s.heap h'->(∃o,h'.get? e=some o/\o.cls=.type "StopIteration")->E (.ref e) { s with heap:=h' }):wpAny (model prog w) A (Builtin.SmallTypes.nextOf (.ref it)) Q E s:=by
 cases t with
 |false=>exact wpAny_nextOf_list_end hh (show s.heap.IsListIter it l i from hi) (show s.heap.IsList l xs from hl) hx hE
 |true =>
  obtain⟨o,ho,hc,hd⟩:=id hi
  obtain⟨ol,hol,_,nl,hdl⟩:=hl
  have ty:s.TypeIs (.ref it) "tuple_iterator" := ⟨o,ho,hc⟩
  unfold Builtin.SmallTypes.nextOf
  refine wpAny_bind (wpAny_callSpecial?_slot (name:=Str.ofString "__next__") ty PyProof.Rows.slot_tupleiter_next (wpAny_call_entry PyProof.Rows.slot_tupleiter_next ty PyProof.Rows.entry_tupleiter_next ?_ (PyProof.Rows.args_tupleiter_next _)))
  refine wpAny_bind (m:=field (.ref it) 0) (wpAny_field ho hd (x:=.ref l) rfl ?_)
  dsimp only
  rw[if_neg (fun z:(Value.ref l==Value.none)=true=>Bool.false_ne_true z)]
  refine wpAny_bind (m:=field (.ref it) 1) (wpAny_field ho hd (x:=.int i 0) rfl (wpAny_bind (m:=seqItems? (.ref l)) (wpAny_seqItems hol hdl ?_)))
  simp only[Int.toNat_natCast,hx]
  refine wpAny_bind (wpAny_rule (wpAny_bind (wpAny_setField ho hd (by simp) (wpAny_bind (m:=newExc (.type "StopIteration") []) ?_))))
  simp only[newExc,newTuple]
  refine wpAny_bind (wpAny_newObj_type (wpAny_bind (m:=firstArgMember _ _) (wpAny_of_eq (a:=Value.none) (by first|rfl|(simp only[firstArgMember];rfl)) (wpAny_newObj_type ?_ (by size_fits)))) (by size_fits))
  simp only[raiseNew]
  refine wpAny_bind (wpAny_handled ?_)
  first|rw[show A.in1.handled=none from hh]|rw[hh]
  exact wpAny_bind (wpAny_pure (wpAny_throw (hE _ _ (((Heap.SameBut.update ..).extBut.push _).push _) ⟨_,Heap.get?_push_size _ rfl,rfl⟩)))
theorem iterK {t:Bool}{l:Addr}{xs:Array Value}{Q:Value->Shared->Prop}(hl:SqK t s.heap l xs)
  (hQ:Q (.ref s.heap.objs.size) { s with heap:=s.heap.push { cls:=.type (if t then "tuple_iterator" else "list_iterator"),data:=.fields #[.ref l,.int 0 0] } }):wpAny (model prog w) A (pyIter (.ref l)) Q E s:=by
 cases t with
 |false=>exact wpAny_pyIter_list (show s.heap.IsList l xs from hl) hQ
 |true=>exact PyProof.Rows.iter_tuple (show IsTup s.heap l xs from hl) hQ
theorem zipK_item {t1 t2:Bool}{z TI TO i1 i2 l1 l2:Addr}{k1 k2:Nat}{xs ys:Array Value}{x y a b:Value}{Q:Value->Shared->Prop}(D:ZipApart z TI TO i1 i2 l1 l2)(yz:IsZip s.heap z TI TO .none)(yI:IsPair s.heap TI (.ref i1) (.ref i2))(yO:IsPair s.heap TO a b)(y1:ItK t1 s.heap i1 l1 k1)(y2:ItK t2 s.heap i2 l2 k2)(m1:SqK t1 s.heap l1 xs)(m2:SqK t2 s.heap l2 ys)(ex:xs[k1]?=some x)(ey:ys[k2]?=some y)(hQ:∀h',IsZip h' z TI TO (rawInt s.heap.objs.size)->IsPair h' TO x y->ItK t1 h' i1 l1 (k1+1)->ItK t2 h' i2 l2 (k2+1)->IsPair h' s.heap.objs.size x y->h'.objs.size=s.heap.objs.size+1->(∀c o,c≠z->c≠TO->c≠i1->c≠i2->s.heap.get? c=some o->h'.get? c=some o)->Q (.ref s.heap.objs.size) { s with heap:=h' }) :
  wpAny (model prog w) A (Builtin.«zip.__next__» ⟨[.ref z],[]⟩) (fun fin s'=>∃v,fin=.done (.ret v)/\Q v s') E s:=by
 refine wpAny_bind (m:=field (.ref z) 2) (wpAny_field yz rfl (x:=.bool false) rfl (wpAny_bind (m:=field (.ref z) 3) (wpAny_field yz rfl (x:=.ref TI) rfl (wpAny_bind (wpAny_seqItems yI rfl ?_)))))
 refine wpAny_bind (m:=Builtin.SmallTypes.ownedTupleIsFree (.ref z)) ?_
 unfold Builtin.SmallTypes.ownedTupleIsFree
 refine wpAny_bind (wpAny_field yz rfl (x:=.none) rfl (wpAny_pure ?_));simp only[if_true]
 refine wpAny_bind (wpAny_rule (wpAny_bind (wpAny_field yz rfl (x:=.ref TO) rfl (wpAny_bind (wpAny_setField_rec yz (by simp) fun h1 z1 e1=>wpAny_bind ?_)))))
 have z1:IsZip h1 z TI TO .ellipsis:=z1
 simp only[List.zipIdx_cons,List.zipIdx_nil,List.forIn_cons,List.forIn_nil]
 refine wpAny_bind (wpAny_bind (wpAny_onRaise (wpAny_bind (m:=Builtin.SmallTypes.nextOf (.ref i1)) (nextK_item (s:={ s with heap:=h1 }) (y1.at fun o q=>e1.extBut _ _ D.i1z q) (m1.at fun o q=>e1.extBut _ _ D.l1z q) ex fun h2 n1 e2=>wpAny_pure ?_))))
 have o2:IsPair h2 TO a b:=e2.extBut _ _ D.TOi1 (e1.extBut _ _ D.TOz yO)
 refine wpAny_bind (wpAny_seqItems o2 rfl (wpAny_bind (wpAny_updateSeq_pair o2 fun h3 o3 e3=>wpAny_bind (wpAny_letGo (wpAny_pure ?_)))))
 have o3:IsPair h3 TO x b:=o3
 refine wpAny_bind (wpAny_bind (wpAny_onRaise (wpAny_bind (m:=Builtin.SmallTypes.nextOf (.ref i2)) (nextK_item (s:={ s with heap:=h3 }) (y2.at fun o q=>e3.extBut _ _ D.TOi2.symm (e2.extBut _ _ D.i12.symm (e1.extBut _ _ D.i2z q))) (m2.at fun o q=>e3.extBut _ _ D.l2TO (e2.extBut _ _ D.l2i1 (e1.extBut _ _ D.l2z q))) ey fun h4 n2 e4=>wpAny_pure ?_))))
 have o4:IsPair h4 TO x b:=e4.extBut _ _ D.TOi2 o3
 refine wpAny_bind (wpAny_seqItems o4 rfl (wpAny_bind (wpAny_updateSeq_pair o4 fun h5 o5 e5=>wpAny_bind (wpAny_letGo (wpAny_pure (wpAny_pure ?_))))))
 have o5:IsPair h5 TO x y:=o5
 refine wpAny_bind (wpAny_seqItems o5 rfl (wpAny_bind (wpAny_newTuple ?_)))
 have sz:h5.objs.size=s.heap.objs.size:=by rw[e5.1,e4.1,e3.1,e2.1,e1.1]
 have z5:IsZip h5 z TI TO .ellipsis:=e5.extBut _ _ D.TOz.symm (e4.extBut _ _ D.i2z.symm (e3.extBut _ _ D.TOz.symm (e2.extBut _ _ D.i1z.symm z1)))
 have kk:∀c o,c≠z->c≠TO->c≠i1->c≠i2->s.heap.get? c=some o->h5.get? c=some o:=fun c o c1 c2 c3 c4 q=>e5.extBut _ _ c2 (e4.extBut _ _ c4 (e3.extBut _ _ c2 (e2.extBut _ _ c3 (e1.extBut _ _ c1 q))))
 have f1:ItK t1 h5 i1 l1 (k1+1):=n1.at fun o q=>e5.extBut _ _ D.TOi1.symm (e4.extBut _ _ D.i12 (e3.extBut _ _ D.TOi1.symm q))
 have f2:ItK t2 h5 i2 l2 (k2+1):=n2.at fun o q=>e5.extBut _ _ D.TOi2.symm q
 have zl:z<h5.objs.size:=Heap.lt_size z5
 refine wpAny_bind (m:=Builtin.SmallTypes.ownedTupleHandOut (.ref z) (.ref h5.objs.size)) ?_
 unfold Builtin.SmallTypes.ownedTupleHandOut
 have z6:IsZip (h5.push { cls:=.type "tuple", data:=.seq #[x,y] }) z TI TO .ellipsis:=Heap.get?_push_of_some _ z5
 refine wpAny_bind (wpAny_setField_rec z6 (by simp) fun h7 z7 e7=>?_)
 have z7:IsZip h7 z TI TO (rawInt h5.objs.size):=z7
 refine wpAny_setField_rec z7 (by simp) fun h8 z8 e8=>?_
 have z8:IsZip h8 z TI TO (rawInt h5.objs.size):=z8
 have up:∀c o,c≠z->h5.get? c=some o->h8.get? c=some o:=fun c o c1 q=>e8.extBut _ _ c1 (e7.extBut _ _ c1 (Heap.get?_push_of_some _ q))
 have nz:h5.objs.size≠z:=Nat.ne_of_gt zl
 have T8:IsPair h8 h5.objs.size x y:=e8.extBut _ _ nz (e7.extBut _ _ nz (Heap.get?_push_size _ rfl))
 have s8:h8.objs.size=h5.objs.size+1:=by rw[e8.1,e7.1,Heap.size_push]
 refine wpAny_pure ⟨_,rfl,?_⟩
 rw[sz] at z8 T8 s8
 have fin:=hQ h8 z8 (up _ _ D.TOz o5) (f1.at fun o q=>up _ o D.i1z q) (f2.at fun o q=>up _ o D.i2z q) T8 s8 fun c o c1 c2 c3 c4 q=>up c o c1 (kk c o c1 c2 c3 c4 q)
 rw[<-sz] at fin
 exact fin
theorem zipK_end {t1 t2:Bool}{z TI TO i1 i2 l1 l2:Addr}{k1 k2:Nat}{xs ys:Array Value}{a b:Value}{Q:Fin->Shared->Prop}(hh:A.handled=none)(D:ZipApart z TI TO i1 i2 l1 l2)(yz:IsZip s.heap z TI TO .none)(yI:IsPair s.heap TI (.ref i1) (.ref i2))(yO:IsPair s.heap TO a b)(y1:ItK t1 s.heap i1 l1 k1)(y2:ItK t2 s.heap i2 l2 k2)(m1:SqK t1 s.heap l1 xs)(m2:SqK t2 s.heap l2 ys)(hend:xs[k1]?=none\/ys[k2]?=none)
  (hE:∀h' e,(∀c o,c≠z->c≠TO->c≠i1->c≠i2->s.heap.get? c=some o->h'.get? c=some o)->(∃o,h'.get? e=some o/\o.cls=.type "StopIteration")->E (.ref e) { s with heap:=h' }) :
  wpAny (model prog w) A (Builtin.«zip.__next__» ⟨[.ref z],[]⟩) Q E s:=by
 refine wpAny_bind (m:=field (.ref z) 2) (wpAny_field yz rfl (x:=.bool false) rfl (wpAny_bind (m:=field (.ref z) 3) (wpAny_field yz rfl (x:=.ref TI) rfl (wpAny_bind (wpAny_seqItems yI rfl ?_)))))
 refine wpAny_bind (m:=Builtin.SmallTypes.ownedTupleIsFree (.ref z)) ?_
 unfold Builtin.SmallTypes.ownedTupleIsFree
 refine wpAny_bind (wpAny_field yz rfl (x:=.none) rfl (wpAny_pure ?_));simp only[if_true]
 refine wpAny_bind (wpAny_rule (wpAny_bind (wpAny_field yz rfl (x:=.ref TO) rfl (wpAny_bind (wpAny_setField_rec yz (by simp) fun h1 z1 e1=>wpAny_bind ?_)))))
 have z1:IsZip h1 z TI TO .ellipsis:=z1
 simp only[List.zipIdx_cons,List.zipIdx_nil,List.forIn_cons,List.forIn_nil]
 refine wpAny_bind (wpAny_bind (wpAny_onRaise (wpAny_bind (m:=Builtin.SmallTypes.nextOf (.ref i1)) ?_)))
 have u1:=y1.at (h':=h1) fun o q=>e1.extBut _ _ D.i1z q
 have v1:=m1.at (h':=h1) fun o q=>e1.extBut _ _ D.l1z q
 cases hx:xs[k1]? with
 |none =>
  refine nextK_end (s:={ s with heap:=h1 }) hh u1 v1 hx fun h2 e e2 he=>?_
  obtain⟨oe,q1,q2⟩:=he
  have z2:IsZip h2 z TI TO .ellipsis:=e2 _ _ D.i1z.symm z1
  have nz:e≠z:=fun r=>by subst r;rw[z2] at q1;cases q1;simp at q2
  exact wpAny_setField_rec z2 (by simp) fun h3 _ e3=>hE h3 e (fun c o c1 _ c3 _ r=>e3.extBut _ _ c1 (e2 _ _ c3 (e1.extBut _ _ c1 r))) ⟨oe,e3.extBut _ _ nz q1,q2⟩
 |some x =>
  have hy:ys[k2]?=none:=by
   rcases hend with q|q
   ·rw[hx] at q;cases q
   ·exact q
  refine nextK_item (s:={ s with heap:=h1 }) u1 v1 hx fun h2 n1 e2=>wpAny_pure ?_
  have o2:IsPair h2 TO a b:=e2.extBut _ _ D.TOi1 (e1.extBut _ _ D.TOz yO)
  refine wpAny_bind (wpAny_seqItems o2 rfl (wpAny_bind (wpAny_updateSeq_pair o2 fun h3 o3 e3=>wpAny_bind (wpAny_letGo (wpAny_pure ?_)))))
  refine wpAny_bind (wpAny_bind (wpAny_onRaise (wpAny_bind (m:=Builtin.SmallTypes.nextOf (.ref i2)) (nextK_end (s:={ s with heap:=h3 }) hh (y2.at fun o q=>e3.extBut _ _ D.TOi2.symm (e2.extBut _ _ D.i12.symm (e1.extBut _ _ D.i2z q))) (m2.at fun o q=>e3.extBut _ _ D.l2TO (e2.extBut _ _ D.l2i1 (e1.extBut _ _ D.l2z q))) hy fun h4 e e4 he=>?_))))
  obtain⟨oe,q1,q2⟩:=he
  have z4:IsZip h4 z TI TO .ellipsis:=e4 _ _ D.i2z.symm (e3.extBut _ _ D.TOz.symm (e2.extBut _ _ D.i1z.symm z1))
  have nz:e≠z:=fun r=>by subst r;rw[z4] at q1;cases q1;simp at q2
  exact wpAny_setField_rec z4 (by simp) fun h5 _ e5=>hE h5 e (fun c o c1 c2 c3 c4 r=>e5.extBut _ _ c1 (e4 _ _ c4 (e3.extBut _ _ c2 (e2.extBut _ _ c3 (e1.extBut _ _ c1 r))))) ⟨oe,e5.extBut _ _ nz q1,q2⟩
theorem nextZ_item {t1 t2:Bool}{z TI TO i1 i2 l1 l2:Addr}{k1 k2:Nat}{xs ys:Array Value}{x y a b:Value}{Q:Option Value->Shared->Prop}(D:ZipApart z TI TO i1 i2 l1 l2)(yz:IsZip s.heap z TI TO .none)(yI:IsPair s.heap TI (.ref i1) (.ref i2))(yO:IsPair s.heap TO a b)(y1:ItK t1 s.heap i1 l1 k1)(y2:ItK t2 s.heap i2 l2 k2)(m1:SqK t1 s.heap l1 xs)(m2:SqK t2 s.heap l2 ys)(ex:xs[k1]?=some x)(ey:ys[k2]?=some y)(hQ:∀h',IsZip h' z TI TO (rawInt s.heap.objs.size)->IsPair h' TO x y->ItK t1 h' i1 l1 (k1+1)->ItK t2 h' i2 l2 (k2+1)->IsPair h' s.heap.objs.size x y->h'.objs.size=s.heap.objs.size+1->(∀c o,c≠z->c≠TO->c≠i1->c≠i2->s.heap.get? c=some o->h'.get? c=some o)->Q (some (.ref s.heap.objs.size)) { s with heap:=h' }) :
  wpAny (model prog w) A (pyNext (.ref z)) Q E s:=by
 have ty:s.TypeIs (.ref z) "zip" := ⟨_,yz,rfl⟩
 unfold pyNext
 exact wpAny_bind (wpAny_attempt (wpAny_callSpecial?_slot (name:=Str.ofString "__next__") ty F.slot_zip_next (wpAny_call_entry F.slot_zip_next ty F.entry_zip_next
  (zipK_item D yz yI yO y1 y2 m1 m2 ex ey fun h' a1 a2 a3 a4 a5 a6 a7=>wpAny_pure (hQ h' a1 a2 a3 a4 a5 a6 a7)) (F.args_zip_next_1 _))))
theorem nextZ_end {t1 t2:Bool}{z TI TO i1 i2 l1 l2:Addr}{k1 k2:Nat}{xs ys:Array Value}{a b:Value}{Q:Option Value->Shared->Prop}(hh:A.handled=none)(D:ZipApart z TI TO i1 i2 l1 l2)(yz:IsZip s.heap z TI TO .none)(yI:IsPair s.heap TI (.ref i1) (.ref i2))(yO:IsPair s.heap TO a b)(y1:ItK t1 s.heap i1 l1 k1)(y2:ItK t2 s.heap i2 l2 k2)(m1:SqK t1 s.heap l1 xs)(m2:SqK t2 s.heap l2 ys)(hend:xs[k1]?=none\/ys[k2]?=none)(hQ:∀h',(∀c o,c≠z->c≠TO->c≠i1->c≠i2->s.heap.get? c=some o->h'.get? c=some o)->Q none { s with heap:=h' }):wpAny (model prog w) A (pyNext (.ref z)) Q E s:=by
 have ty:s.TypeIs (.ref z) "zip" := ⟨_,yz,rfl⟩
 unfold pyNext
 refine wpAny_bind (wpAny_attempt (wpAny_callSpecial?_slot (name:=Str.ofString "__next__") ty F.slot_zip_next (wpAny_call_entry F.slot_zip_next ty F.entry_zip_next (zipK_end hh D yz yI yO y1 y2 m1 m2 hend fun h' e hk he=>?_) (F.args_zip_next_1 _))))
 obtain⟨o,q1,q2⟩:=he
 exact wpAny_bind (wpAny_isInstance (T := "StopIteration") (b:=true) ⟨o,q1,q2⟩ isSubtype_stop (wpAny_pure (hQ _ hk)))
abbrev itO (t:Bool)(l:Addr):Obj:={ cls:=.type (if t then "tuple_iterator" else "list_iterator"),data:=.fields #[.ref l,.int 0 0] }
abbrev zk2 (t1 t2:Bool)(h:Heap)(l1 l2:Addr):Heap:=(h.push (itO t1 l1)).push (itO t2 l2)
abbrev zk4 (t1 t2:Bool)(h:Heap)(l1 l2:Addr):Heap:=((zk2 t1 t2 h l1 l2).push { cls:=.type "tuple", data:=.seq #[.ref h.objs.size,.ref (h.push (itO t1 l1)).objs.size] }).push { cls:=.type "tuple", data:=.seq #[.none,.none] }
abbrev zk5 (t1 t2:Bool)(h:Heap)(l1 l2:Addr):Heap:=(zk4 t1 t2 h l1 l2).push { cls:=.type "zip", data:=.fields #[.none,.bool false,.bool false,.ref (zk2 t1 t2 h l1 l2).objs.size,.ref ((zk2 t1 t2 h l1 l2).push { cls:=.type "tuple", data:=.seq #[.ref h.objs.size,.ref (h.push (itO t1 l1)).objs.size] }).objs.size] }
theorem newZ (t1 t2:Bool)(l1 l2:Addr)(xs ys:Array Value):Meets (Builtin.«zip.__new__» ⟨[.type "zip", .ref l1,.ref l2],[]⟩) (fun _ R s=>SqK t1 s.heap l1 xs/\SqK t2 s.heap l2 ys/\R (.ok (.ret (.ref (zk4 t1 t2 s.heap l1 l2).objs.size))) { s with heap:=zk5 t1 t2 s.heap l1 l2 }) :=
 .of_wp fun prog w A R s h=>by
  obtain⟨hp,g,d,tk,os⟩:=s
  obtain⟨h1,h2,h⟩:=h
  have sb:=sub_zip
  have b1:SqK t1 (Shared.heap ⟨hp,g,d,tk,os⟩) l1 xs:=h1
  have b2:SqK t2 (Shared.heap ⟨hp.push (itO t1 l1),g,d,tk,os⟩) l2 ys:=h2.at fun o q=>Heap.get?_push_of_some _ q
  wp_walk using iterK b1,iterK b2
  exact⟨_,rfl,h⟩
theorem callZ {t1 t2:Bool}{l1 l2:Addr}{xs ys:Array Value}{Q:Value->Shared->Prop}(m1:SqK t1 s.heap l1 xs)(m2:SqK t2 s.heap l2 ys)(h:∀h',IsZip h' (s.heap.objs.size+4) (s.heap.objs.size+2) (s.heap.objs.size+3) .none->IsPair h' (s.heap.objs.size+2) (.ref s.heap.objs.size) (.ref (s.heap.objs.size+1))->IsPair h' (s.heap.objs.size+3) .none .none ->
   ItK t1 h' s.heap.objs.size l1 0->ItK t2 h' (s.heap.objs.size+1) l2 0->(∀c o,s.heap.get? c=some o->h'.get? c=some o)->Q (.ref (s.heap.objs.size+4)) { s with heap:=h' }):wpAny (model prog w) A (call (.type "zip") [.ref l1,.ref l2]) Q E s:=by
 refine callType_new F.called_zip (by decide) (F.typeCall_zip_2 _ _) (F.newCall_zip_2 _ _) (fun obj=>F.args_object_init_3 obj _ _) F.entry_zip_new (newZ t1 t2 l1 l2 xs ys) ⟨m1,m2,?_⟩
 have z1:(s.heap.push (itO t1 l1)).objs.size=s.heap.objs.size+1:=Heap.size_push ..
 have z2:(zk2 t1 t2 s.heap l1 l2).objs.size=s.heap.objs.size+2:=by rw[Heap.size_push,z1]
 have z3:((zk2 t1 t2 s.heap l1 l2).push { cls:=.type "tuple", data:=.seq #[.ref s.heap.objs.size,.ref (s.heap.push (itO t1 l1)).objs.size] }).objs.size=s.heap.objs.size+3:=by rw[Heap.size_push,z2]
 have z4:(zk4 t1 t2 s.heap l1 l2).objs.size=s.heap.objs.size+4:=by rw[Heap.size_push,z3]
 have g5:(zk5 t1 t2 s.heap l1 l2).get? (zk4 t1 t2 s.heap l1 l2).objs.size=some _:=Heap.get?_push_size _ rfl
 have g4:(zk5 t1 t2 s.heap l1 l2).get? ((zk2 t1 t2 s.heap l1 l2).push { cls:=.type "tuple", data:=.seq #[.ref s.heap.objs.size,.ref (s.heap.push (itO t1 l1)).objs.size] }).objs.size=some { cls:=.type "tuple", data:=.seq #[.none,.none] }:=Heap.get?_push_of_some _ (Heap.get?_push_size _ rfl)
 have g3:(zk5 t1 t2 s.heap l1 l2).get? (zk2 t1 t2 s.heap l1 l2).objs.size=some { cls:=.type "tuple", data:=.seq #[.ref s.heap.objs.size,.ref (s.heap.push (itO t1 l1)).objs.size] }:=Heap.get?_push_of_some _ (Heap.get?_push_of_some _ (Heap.get?_push_size _ rfl))
 have g2:(zk5 t1 t2 s.heap l1 l2).get? (s.heap.push (itO t1 l1)).objs.size=some (itO t2 l2):=Heap.get?_push_of_some _ (Heap.get?_push_of_some _ (Heap.get?_push_of_some _ (Heap.get?_push_size _ rfl)))
 have g1:(zk5 t1 t2 s.heap l1 l2).get? s.heap.objs.size=some (itO t1 l1):=Heap.get?_push_of_some _ (Heap.get?_push_of_some _ (Heap.get?_push_of_some _ (Heap.get?_push_of_some _ (Heap.get?_push_size _ rfl))))
 show _/\_
 rw[z2,z3,z4] at g5
 rw[z1,z2] at g3
 rw[z3] at g4
 rw[z1] at g2
 rw[z4]
 exact⟨⟨_,g5,rfl⟩,h _ g5 g3 g4 ⟨_,g1,rfl,rfl⟩ ⟨_,g2,rfl,rfl⟩ fun c o q=>Heap.get?_push_of_some _ (Heap.get?_push_of_some _ (Heap.get?_push_of_some _ (Heap.get?_push_of_some _ (Heap.get?_push_of_some _ q))))⟩
end
def SqG (t:Bool)(K:PySem.W.Frag)(H:Hp)(a:Addr)(xs:List V):Prop:=if t=true then SqT K H a xs else SqL K H a xs
theorem inv_sqg {X:Cx}{pins:List (Addr×Obj)}{σ:L2.St}{H:Hp}{s:Shared}{t:Bool}{a:Addr}{xs:List V}(I:Inv X pins σ H s)(h:SqG t X.K H a xs):∃its:List Value,Vals xs its/\SqK t s.heap a its.toArray:=by
 cases t with
 |false =>
  obtain⟨its,rv,p,_⟩:=I.list (show SqL X.K H a xs from h)
  exact⟨its,rv,p.isList⟩
 |true =>
  obtain⟨its,rv,p,_⟩:=I.tuple (show SqT X.K H a xs from h)
  exact⟨its,rv,p⟩
theorem sqg_inj {X:Cx}{pins:List (Addr×Obj)}{σ:L2.St}{H:Hp}{s:Shared}{t:Bool}{a:Addr}{xs ys:List V}(I:Inv X pins σ H s)(h:SqG t X.K H a xs)(h':SqG t X.K H a ys):xs=ys:=by
 cases t with
 |false=>exact I.list_inj (show SqL X.K H a xs from h) (show SqL X.K H a ys from h')
 |true=>exact I.tuple_inj (show SqT X.K H a xs from h) (show SqT X.K H a ys from h')
theorem sqg_same {K:PySem.W.Frag}{H H':Hp}{t:Bool}{a:Addr}{xs:List V}(e:Same H H')(h:SqG t K H a xs):SqG t K H' a xs:=by
 cases t with
 |false=>exact e.seq (show SqL K H a xs from h)
 |true=>exact e.seqT (show SqT K H a xs from h)
def ItZ (t1 t2:Bool)(K:PySem.W.Frag)(a b:Addr):It :=
 ⟨fun i H=>∃xs ys x y,SqG t1 K H a xs/\SqG t2 K H b ys/\xs[i]?=some x/\ys[i]?=some y,
  fun i H v H'=>∃p x y,H p=none/\v=.ref p/\H'=upd H p (.tup [x,y])/\(∀xs,SqG t1 K H a xs->xs[i]?=some x)/\∀ys,SqG t2 K H b ys->ys[i]?=some y,
  fun i H=>∃xs ys,SqG t1 K H a xs/\SqG t2 K H b ys/\(xs.length<=i\/ys.length<=i)⟩
abbrev TnG (t1 t2:Bool)(a b z TI TO i1 i2:Addr)(i:Nat)(h:Heap):Prop:=IsZip h z TI TO .none/\IsPair h TI (.ref i1) (.ref i2)/\(∃p q,IsPair h TO p q)/\ItK t1 h i1 a i/\ItK t2 h i2 b i/\a<z/\b<z/\a≠TO/\b≠TO/\a≠i1/\a≠i2/\b≠i1/\b≠i2
theorem turn_zipG {P:Program}{w:World}{K:PySem.W.Frag}{es:List Expr}{k:Nat}{pos:Pos}(t1 t2:Bool)(a b z TI TO i1 i2:Addr)(A:ZA z TI TO i1 i2):Turn P w K (.Tuple es k pos) (ItZ t1 t2 K a b) [z,TI,TO,i1,i2] z (TnG t1 t2 a b z TI TO i1 i2) where
 mem:=by simp
 obj:=fun i h st c hc=>by
  obtain⟨hz,hTI,⟨p,q,hTO⟩,⟨o1,e1,c1,d1⟩,⟨o2,e2,c2,d2⟩,_⟩:=st
  simp at hc
  rcases hc with rfl|rfl|rfl|rfl|rfl
  ·exact⟨_,hz,fun v z=>by cases z⟩
  ·exact⟨_,hTI,fun v z=>by cases z⟩
  ·exact⟨_,hTO,fun v z=>by cases z⟩
  ·exact⟨o1,e1,fun v z=>by rw[d1] at z;cases z⟩
  ·exact⟨o2,e2,fun v z=>by rw[d2] at z;cases z⟩
 keep:=fun i h h' st kk=>by
  obtain⟨hz,hTI,⟨p,q,hTO⟩,h1,h2,ap⟩:=st
  exact⟨kk z (by simp) _ hz,kk TI (by simp) _ hTI,⟨p,q,kk TO (by simp) _ hTO⟩,h1.at fun o e=>kk i1 (by simp) o e,h2.at fun o e=>kk i2 (by simp) o e,ap⟩
 item:=by
  intro X hP hw hK hc i pins s σ H E I hf st hg
  subst hP hw hK
  obtain⟨xs,ys,x,y,hq1,hq2,hx,hy⟩:=hg
  obtain⟨its1,rv1,p1⟩:=inv_sqg I hq1
  obtain⟨its2,rv2,p2⟩:=inv_sqg I hq2
  obtain⟨u1,hu1,ru1⟩:=rv1.get hx
  obtain⟨u2,hu2,ru2⟩:=rv2.get hy
  obtain⟨hz,hTI,⟨p,q,hTO⟩,h1,h2,w1,w2,w3,w4,w5,w6,w7,w8⟩:=id st
  have D:ZipApart z TI TO i1 i2 a b:=⟨A.TIz,A.TOz,A.i1z,A.i2z,A.TITO,A.TIi1,A.TIi2,A.TOi1,A.TOi2,A.i12,Nat.ne_of_lt w1,w3,w5,w6,Nat.ne_of_lt w2,w4,w7,w8⟩
  refine nextZ_item D hz hTI hTO h1 h2 p1 p2 (x:=u1) (y:=u2) (by simpa using hu1) (by simpa using hu2) fun h' a1 a2 a3 a4 a5 a6 a7=>⟨_,rfl,wpAny_letOwnedTupleGo_zip a1 fun h'' b1 b2=>?_⟩
  have lt:∀{c o},s.heap.get? c=some o->c≠s.heap.objs.size:=fun e=>Nat.ne_of_lt (Heap.lt_size e)
  have kk:∀b u,b ∉ [z,TI,TO,i1,i2]->s.heap.get? b=some u->h''.get? b=some u:=fun b u nb q=>(b2.2 b (fun z=>nb (by simp[z]))).trans (a7 b u (fun z=>nb (by simp[z])) (fun z=>nb (by simp[z])) (fun z=>nb (by simp[z])) (fun z=>nb (by simp[z])) q)
  have hT:h''.get? s.heap.objs.size=some { cls:=.type "tuple", data:=.seq #[u1,u2] }:=(b2.2 _ (Ne.symm (lt hz))).trans a5
  refine⟨.ref s.heap.objs.size,_,I.turnedT (o:=.tup [x,y]) (t':=s.toks) hf kk (Nat.le_refl _) ⟨by show 2<=sizeLine;decide,[u1,u2],.cons ru1 (.cons ru2 .nil),⟨_,hT,rfl,_,rfl⟩⟩,rfl,
   ⟨_,x,y,I.fresh,rfl,rfl,fun zs hy=>by rw[sqg_inj I hy hq1];exact hx,fun zs hy'=>by rw[sqg_inj I hy' hq2];exact hy⟩,
   ⟨b1,(b2.2 TI A.TIz).trans (a7 _ _ A.TIz A.TITO A.TIi1 A.TIi2 hTI),⟨u1,u2,(b2.2 TO A.TOz).trans a2⟩,a3.at fun o q=>(b2.2 i1 A.i1z).trans q,a4.at fun o q=>(b2.2 i2 A.i2z).trans q,w1,w2,w3,w4,w5,w6,w7,w8⟩,fun b hb=>?_⟩
  have:b≠s.heap.objs.size:=by
   obtain⟨o1,e1,_⟩:=id h1
   obtain⟨o2,e2,_⟩:=id h2
   have hb':=hb
   simp at hb'
   rcases hb' with rfl|rfl|rfl|rfl|rfl
   ·exact lt hz
   ·exact lt hTI
   ·exact lt hTO
   ·exact lt e1
   ·exact lt e2
  rw[Zj this];exact(hf b hb).1
 done:=by
  intro X hP hw hK hc i pins s σ H E I hf st hg
  subst hP hw hK
  obtain⟨xs,ys,hq1,hq2,hx⟩:=hg
  obtain⟨its1,rv1,p1⟩:=inv_sqg I hq1
  obtain⟨its2,rv2,p2⟩:=inv_sqg I hq2
  have hl1:=rv1.length
  have hl2:=rv2.length
  obtain⟨hz,hTI,⟨p,q,hTO⟩,h1,h2,w1,w2,w3,w4,w5,w6,w7,w8⟩:=id st
  have D:ZipApart z TI TO i1 i2 a b:=⟨A.TIz,A.TOz,A.i1z,A.i2z,A.TITO,A.TIi1,A.TIi2,A.TOi1,A.TOi2,A.i12,Nat.ne_of_lt w1,w3,w5,w6,Nat.ne_of_lt w2,w4,w7,w8⟩
  refine nextZ_end (I.ok.hd hc) D hz hTI hTO h1 h2 p1 p2 ?_ fun h' eb=>⟨rfl,I.turnedF (t':=s.toks) hf fun b u nb q=>eb b u (fun z=>nb (by simp[z])) (fun z=>nb (by simp[z])) (fun z=>nb (by simp[z])) (fun z=>nb (by simp[z])) q⟩
  rcases hx with hx|hx
  ·exact .inl (by simp;lia)
  ·exact .inr (by simp;lia)
 self:=fun _ _ _ _ _ st h=>wpAny_pyIter_zip st.1 h
section
variable {X:Cx} {E:XK} {pos p p2:Pos} {es:List Expr} {k:Nat}
def iZg (t1 t2:Bool)(K:PySem.W.Frag)(tl:TA):TI:=fun σ H R=>tl σ H fun vs H1=>∃a b,vs=[.ref a,.ref b]/\(∃xs,SqG t1 K H1 a xs)/\(∃ys,SqG t2 K H1 b ys)/\R (ItZ t1 t2 K a b) H1
theorem pi_zipG (t1 t2:Bool){l m:Expr}{tl:TA} (hg:Gl X "zip") (hm:X.mg "zip" = none) (hl:PA X [l,m] tl) (hs:starEach [l,m] X.env=[(false,eval l X.env),(false,eval m X.env)]:=by rfl) (hs2:starEach [m] X.env=[(false,eval m X.env)]:=by rfl) :
  PI X (.Tuple es k p2) (.Call (.Name "zip" p) [l,m] [] pos) (iZg t1 t2 X.K tl):=by
 intro pins s σ H R I h
 refine Call_ (ld_blt I hg hm boot_zip (PyProof.Rows.callWith_type1 (thn (hl pos pins s σ H _ I h) fun us s1 ⟨vs,H1,I1,r1,q1⟩=>?_) (by rw[hs,hs2]) (by rw[hs2];rfl)))
 obtain⟨a,b,rfl,⟨xs,hq⟩,⟨ys,hq2⟩,q⟩:=q1
 obtain⟨u,w',rfl,rx,ry⟩:=vals2 r1
 cases rx
 cases ry
 obtain⟨its,rv,pl⟩:=inv_sqg I1 hq
 obtain⟨its2,rv2,pl2⟩:=inv_sqg I1 hq2
 refine callZ pl pl2 fun h' e1 e2 e3 e4 e5 e7=>wpAny_pyIter_zip e1 ?_
 have I2:Inv X pins σ H1 { s1 with heap:=h' }:=I1.kept (t':=s1.toks) e7
 have la:a<s1.heap.objs.size:=by obtain⟨o,z,_⟩:=pl;exact Heap.lt_size z
 have lb:b<s1.heap.objs.size:=by obtain⟨o,z,_⟩:=pl2;exact Heap.lt_size z
 refine⟨s1.heap.objs.size+4,[s1.heap.objs.size+4,s1.heap.objs.size+2,s1.heap.objs.size+3,s1.heap.objs.size,s1.heap.objs.size+1],_,_,H1,rfl,I2,turn_zipG t1 t2 a b (s1.heap.objs.size+4) (s1.heap.objs.size+2) (s1.heap.objs.size+3) s1.heap.objs.size (s1.heap.objs.size+1) (za5 _),
  ⟨e1,e2,⟨_,_,e3⟩,e4,e5,Nat.lt_of_lt_of_le la (Nat.le_add_right _ _),Nat.lt_of_lt_of_le lb (Nat.le_add_right _ _),Nat.ne_of_lt (Nat.lt_of_lt_of_le la (Nat.le_add_right _ _)),Nat.ne_of_lt (Nat.lt_of_lt_of_le lb (Nat.le_add_right _ _)),Nat.ne_of_lt la,Nat.ne_of_lt (Nat.lt_succ_of_lt la),Nat.ne_of_lt lb,Nat.ne_of_lt (Nat.lt_succ_of_lt lb)⟩,fun b hb=>?_,q⟩
 have hb:s1.heap.objs.size<=b:=by simp at hb;rcases hb with rfl|rfl|rfl|rfl|rfl<;>lia
 exact I1.fpOk hb (I1.hok.fresh hb)
theorem itg_ok {t1 t2:Bool}{K:PySem.W.Frag}{Hf H:Hp}{a b:Addr}{xs ys:List V}{ds es:List D}(h:SqG t1 K Hf a xs)(r:Reps K Hf ds xs)(h':SqG t2 K Hf b ys)(r':Reps K Hf es ys):ItOk K Hf H (zipD ds es) (ItZ t1 t2 K a b):=by
 intro i Hf1 H1 e1 e2
 have h2:=sqg_same e2 (sqg_same e1 h)
 have h3:=sqg_same e2 (sqg_same e1 h')
 rw[zipD_get]
 cases q:ds[i]? with
 |none=>exact⟨xs,ys,h2,h3,.inl (List.getElem?_eq_none_iff.mp (r.none_of q))⟩
 |some d =>
  cases q':es[i]? with
  |none=>exact⟨xs,ys,h2,h3,.inr (List.getElem?_eq_none_iff.mp (r'.none_of q'))⟩
  |some e =>
   obtain⟨x,ex,rx⟩:=r.get q
   obtain⟨y,ey,ry⟩:=r'.get q'
   refine⟨⟨xs,ys,x,y,h2,h3,ex,ey⟩,fun v H2 hy=>?_⟩
   obtain⟨p,x',y',hp,rfl,rfl,hall,hall'⟩:=hy
   have ex':=hall xs h2
   rw[ex] at ex'
   cases ex'
   have ey':=hall' ys h3
   rw[ey] at ey'
   cases ey'
   exact⟨_,Gr.alloc e2 hp _,Gr.tup e2 hp (Reps.cons (rx.mono e1) (Reps.cons (ry.mono e1) Reps.nil))⟩
end
end DL
namespace DL
open PySem PySem.Spec PyProof.Rows L2 PySem.W
def xclsB (K:Frag)(C:Addr):Bool:=findIn K (.ref C) "__setattr__" == some (some (.builtin "object.__setattr__"))&&findIn K (.ref C) "__getattribute__" == some (some (.builtin "BaseException.__getattribute__")) &&
 findIn K (.ref C) "__getattr__" == some none&&hasDictIn K C&&(clsIn K C).any (fun cd=>exOnly cd.mro)
theorem xcls_of {K:Frag}{C:Addr}(h:xclsB K C=true):XCls K C:=by
 unfold xclsB at h
 simp only[Bool.and_eq_true,beq_iff_eq] at h
 exact⟨h.1.1.1.1,h.1.1.1.2,h.1.1.2,h.1.2,h.2⟩
def xkitB (K:Frag)(C:Addr):Bool:=findIn K (.ref C) "__class__" == some (some (.builtin "object.__class__"))&&specialIn K (.builtin "object.__class__") "__get__" == some (some (.builtin "getset_descriptor.__get__")) &&
 takesIn K (.builtin "object.__class__")==some true&&mroIn K C (.type "object")==some true
theorem xkit_of {K:Frag}{C:Addr}(h:xkitB K C=true):XKit K C:=by
 unfold xkitB at h
 simp only[Bool.and_eq_true,beq_iff_eq] at h
 exact⟨h.1.1.1,h.1.1.2,h.1.2,h.2⟩
def hitsB (K:Frag)(C D:Addr):Bool:=subIn K (.ref C) (.ref D)==some true&&subIn K (.ref D) (.type "BaseException")==some true&&typeIn K (.ref D)==some (.type "type")&&instIn K (.ref D) (.type "type")==some true&&instIn K (.ref D) (.type "tuple")==some false
theorem hits_of {K:Frag}{C D:Addr}(h:hitsB K C D=true):Hits K C D:=by
 unfold hitsB at h
 simp only[Bool.and_eq_true,beq_iff_eq] at h
 exact⟨h.1.1.1.1,h.1.1.1.2,h.1.1.2,h.1.2,h.2⟩
def inCls (s:Stmt)(j:Nat):Stmt:=match s with
 |.ClassDef _ _ _ body _ _ _ _ _ _ _=>body.getD j (.Pass ⟨0,0,0,0⟩)
 |_=>.Pass ⟨0,0,0,0⟩
theorem know_of {K:Frag}{y:Str}{C:Addr}(h1:nsIn K mainGlobals y=some (some (.ref C)))(h2:xclsB K C=true)(h3:xkitB K C=true):XKnow K y C:=⟨h1,xcls_of h2,xkit_of h3⟩
theorem pd_globI {X:Cx}{E:XK}{x:Str}{i:Int}{t:Tok}{pos:Pos}(hm:X.mg x=some (.int i t))(hg:Gl X x:=by rfl) (hd:(x==("__debug__" : Str))=false:=by decide):PEd X E (.Name x pos) (eC (.int i)) :=
 ⟨_,pe_glob (v:=.int i) hg hm ⟨t,rfl⟩ hd,fun _ _ _ _ _ _ _ sr h=>Po.ret sr.sub h (rep_int.mpr rfl)⟩
end DL
namespace DL
open PySem PySem.Spec PyProof.Rows L2
open AutoSeq1 (wpAny_loadPart')
section
variable {prog:Program} {w:World} {A:Around} {E:Value->Shared->Prop} {s:Shared}
theorem enumK_item {t:Bool}{e it l:Addr}{i:Nat}{xs:Array Value}{x old:Value}{Q:Value->Shared->Prop}(he:IsEnum s.heap e it i old)(hi:ItK t s.heap it l i)(hl:SqK t s.heap l xs)(hx:xs[i]?=some x)(ne:e≠it)
  (hQ:∀h',IsEnumOut h' e it ((i:Int)+1) x s.heap.objs.size->ItK t h' it l (i+1)->h'.get? s.heap.objs.size=some { cls:=.type "tuple", data:=.seq #[.int i s.toks,x] }->(∀b o,b≠e->b≠it->s.heap.get? b=some o->h'.get? b=some o)->Q (.ref s.heap.objs.size) { s with heap:=h',toks:=s.toks+1 }) :
  wpAny (model prog w) A (Builtin.«enumerate.__next__» ⟨[.ref e],[]⟩) (fun fin s'=>∃v,fin=.done (.ret v)/\Q v s') E s:=by
 obtain⟨hp,g,d,tk,os⟩:=s
 refine wpAny_bind (m:=field (.ref e) 2) (wpAny_field he rfl (x:=.ref it) rfl (wpAny_bind (nextK_item hi hl hx fun h1 n1 c1=>?_)))
 replace c1:Heap.SameBut it hp h1:=c1
 have b1:IsEnum h1 e it i old:=(c1.2 e ne).trans he
 refine wpAny_bind (m:=field (.ref e) 3) (wpAny_field (s:=⟨h1,g,d,tk,os⟩) b1 rfl (x:=rawInt i) rfl (wpAny_bind (m:=field (.ref e) 4) (wpAny_field (s:=⟨h1,g,d,tk,os⟩) b1 rfl (x:=.none) rfl ?_)))
 refine wpAny_bind (m:=mkInt i) (wpAny_mkInt ?_)
 refine wpAny_bind (m:=setField (.ref e) 3 (rawInt ((i:Int)+1))) (wpAny_setField_rec (s:=⟨h1,g,d,tk+1,os⟩) b1 (by simp) fun h2 b2 c2=>?_)
 replace c2:Heap.SameBut e h1 h2:=c2
 replace b2:IsEnum h2 e it ((i:Int)+1) old:=b2
 refine wpAny_bind (m:=setField (.ref e) 4 .none) (wpAny_setField_rec (s:=⟨h2,g,d,tk+1,os⟩) b2 (by simp) fun h3 b3 c3=>?_)
 replace c3:Heap.SameBut e h2 h3:=c3
 replace b3:IsEnum h3 e it ((i:Int)+1) old:=b3
 refine wpAny_bind (m:=newTuple [.int i tk,x]) (wpAny_newTuple ?_)
 have sz:h3.objs.size=hp.objs.size:=by rw[c3.1,c2.1,c1.1]
 have el:e<hp.objs.size:=Heap.lt_size he
 have ge:hp.objs.size≠e:=Nat.ne_of_gt el
 have b4:IsEnum (h3.push { cls:=.type "tuple", data:=.seq #[.int i tk,x] }) e it ((i:Int)+1) old:=Heap.get?_push_of_some _ b3
 have t4:(h3.push { cls:=.type "tuple", data:=.seq #[.int i tk,x] }).get? hp.objs.size=some { cls:=.type "tuple", data:=.seq #[.int i tk,x] }:=by rw[<-sz];exact Heap.get?_push_size _ rfl
 have k4:∀b o,b≠e->b≠it->hp.get? b=some o->(h3.push { cls:=.type "tuple", data:=.seq #[.int i tk,x] }).get? b=some o:=fun b o q1 q2 q=>Heap.get?_push_of_some _ (c3.extBut _ _ q1 (c2.extBut _ _ q1 (c1.extBut _ _ q2 q)))
 have n4:ItK t (h3.push { cls:=.type "tuple", data:=.seq #[.int i tk,x] }) it l (i+1):=n1.at fun o q=>Heap.get?_push_of_some _ (c3.extBut _ _ ne.symm (c2.extBut _ _ ne.symm q))
 rw[sz]
 generalize (h3.push { cls:=.type "tuple", data:=.seq #[.int i tk,x] })=h4 at b4 t4 k4 n4
 refine wpAny_bind (m:=Builtin.SmallTypes.ownedTupleIsFree (.ref e)) ?_
 unfold Builtin.SmallTypes.ownedTupleIsFree
 refine wpAny_bind (wpAny_field (s:=⟨h4,g,d,tk+1,os⟩) b4 rfl (x:=.none) rfl (wpAny_pure ?_))
 simp only[if_true]
 refine wpAny_bind (wpAny_rule (wpAny_bind (wpAny_field (s:=⟨h4,g,d,tk+1,os⟩) b4 rfl (x:=old) rfl (wpAny_bind (wpAny_setField_rec (s:=⟨h4,g,d,tk+1,os⟩) b4 (by simp) fun h5 b5 c5=>?_)))))
 replace c5:Heap.SameBut e h4 h5:=c5
 replace b5:IsEnum h5 e it ((i:Int)+1) x:=b5
 refine wpAny_bind (m:=Builtin.SmallTypes.ownedTupleHandOut (.ref e) (.ref hp.objs.size)) ?_
 unfold Builtin.SmallTypes.ownedTupleHandOut
 refine wpAny_bind (wpAny_setField_rec (s:=⟨h5,g,d,tk+1,os⟩) b5 (by simp) fun h6 b6 c6=>?_)
 replace c6:Heap.SameBut e h5 h6:=c6
 replace b6:IsEnumOut h6 e it ((i:Int)+1) x hp.objs.size:=b6
 refine wpAny_setField_rec (s:=⟨h6,g,d,tk+1,os⟩) b6 (by simp) fun h7 b7 c7=>?_
 replace c7:Heap.SameBut e h6 h7:=c7
 replace b7:IsEnumOut h7 e it ((i:Int)+1) x hp.objs.size:=b7
 have up:∀b o,b≠e->h4.get? b=some o->h7.get? b=some o:=fun b o q1 q=>c7.extBut _ _ q1 (c6.extBut _ _ q1 (c5.extBut _ _ q1 q))
 exact wpAny_bind (wpAny_letGo (wpAny_pure ⟨_,rfl,hQ h7 b7 (n4.at fun o q=>up _ _ ne.symm q) (up _ _ ge t4) fun b o q1 q2 q=>up b o q1 (k4 b o q1 q2 q)⟩))
theorem nextE_item {t:Bool}{e it l:Addr}{i:Nat}{xs:Array Value}{x old:Value}{Q:Option Value->Shared->Prop}(he:IsEnum s.heap e it i old)(hi:ItK t s.heap it l i)(hl:SqK t s.heap l xs)(hx:xs[i]?=some x)(ne:e≠it)
  (hQ:∀h',IsEnumOut h' e it ((i:Int)+1) x s.heap.objs.size->ItK t h' it l (i+1)->h'.get? s.heap.objs.size=some { cls:=.type "tuple", data:=.seq #[.int i s.toks,x] }->(∀b o,b≠e->b≠it->s.heap.get? b=some o->h'.get? b=some o)->Q (some (.ref s.heap.objs.size)) { s with heap:=h',toks:=s.toks+1 }) :
  wpAny (model prog w) A (pyNext (.ref e)) Q E s:=by
 have ty:s.TypeIs (.ref e) "enumerate" := ⟨_,he,rfl⟩
 unfold pyNext
 exact wpAny_bind (wpAny_attempt (wpAny_callSpecial?_slot (name:=Str.ofString "__next__") ty F.slot_enumerate_next (wpAny_call_entry F.slot_enumerate_next ty F.entry_enumerate_next
  (enumK_item he hi hl hx ne fun h' a b c d=>wpAny_pure (hQ h' a b c d)) (F.args_enumerate_next_1 _))))
theorem nextE_end {t:Bool}{e it l:Addr}{i:Nat}{xs:Array Value}{old:Value}{Q:Option Value->Shared->Prop}(hh:A.handled=none)(he:IsEnum s.heap e it i old)(hi:ItK t s.heap it l i)(hl:SqK t s.heap l xs)(hx:xs[i]?=none)(hQ:∀h',Heap.ExtBut it s.heap h'->Q none { s with heap:=h' }):wpAny (model prog w) A (pyNext (.ref e)) Q E s:=by
 have ty:s.TypeIs (.ref e) "enumerate" := ⟨_,he,rfl⟩
 unfold pyNext
 refine wpAny_bind (wpAny_attempt (wpAny_callSpecial?_slot (name:=Str.ofString "__next__") ty F.slot_enumerate_next (wpAny_call_entry F.slot_enumerate_next ty F.entry_enumerate_next ?_ (F.args_enumerate_next_1 _))))
 refine wpAny_bind (m:=field (.ref e) 2) (wpAny_field he rfl (x:=.ref it) rfl (wpAny_bind (nextK_end hh hi hl hx fun h' y q1 q2=>?_)))
 obtain⟨o,ho,hc⟩:=q2
 exact wpAny_bind (wpAny_isInstance (T := "StopIteration") (b:=true) ⟨o,ho,hc⟩ isSubtype_stop (wpAny_pure (hQ _ q1)))
abbrev ek2 (t:Bool)(h:Heap)(l:Addr):Heap:=(h.push (itO t l)).push { cls:=.type "enumerate", data:=.fields #[.none,.bool false,.ref h.objs.size,rawInt 0,.none,.none] }
theorem newE (l:Addr)(xs:Array Value):Meets (Builtin.«enumerate.__new__» ⟨[.type "enumerate", .ref l],[]⟩) (fun _ R s=>SqK true s.heap l xs/\R (.ok (.ret (.ref (s.heap.push (itO true l)).objs.size))) { s with heap:=ek2 true s.heap l }) :=
 .of_wp fun prog w A R s h=>by
  obtain⟨hp,g,d,tk,os⟩:=s
  obtain⟨h1,h⟩:=h
  have sb:=sub_enumerate
  obtain⟨o,hl,hc,n,hd⟩:=id h1
  have b1:SqK true (Shared.heap ⟨hp,g,d,tk,os⟩) l xs:=h1
  wp_walk using wpAny_loadPart' hl
  refine wpAny_stack_any fun st=>wpAny_pure ?_
  split
  ·rename_i c _ _ _ _ _
   cases (c==Value.type "enumerate")
   ·wp_walk using wpAny_loadPart' hl,iterK b1
    exact⟨_,rfl,h⟩
   ·wp_walk using wpAny_loadPart' hl,iterK b1
    exact⟨_,rfl,h⟩
  ·wp_walk using wpAny_loadPart' hl,iterK b1
   exact⟨_,rfl,h⟩
theorem callE {l:Addr}{xs:Array Value}{Q:Value->Shared->Prop}(m1:SqK true s.heap l xs)(h:∀h',IsEnum h' (s.heap.objs.size+1) s.heap.objs.size 0 .none->ItK true h' s.heap.objs.size l 0->(∀c o,s.heap.get? c=some o->h'.get? c=some o)->Q (.ref (s.heap.objs.size+1)) { s with heap:=h' }):wpAny (model prog w) A (call (.type "enumerate") [.ref l]) Q E s:=by
 refine callType_new F.called_enumerate (by decide) (F.typeCall_enumerate_1 _) (F.newCall_enumerate_1 _) (fun obj=>F.args_object_init_2 obj _) F.entry_enumerate_new (newE l xs) ⟨m1,?_⟩
 have z1:(s.heap.push (itO true l)).objs.size=s.heap.objs.size+1:=Heap.size_push ..
 have g2:(ek2 true s.heap l).get? (s.heap.push (itO true l)).objs.size=some _:=Heap.get?_push_size _ rfl
 have g1:(ek2 true s.heap l).get? s.heap.objs.size=some (itO true l):=Heap.get?_push_of_some _ (Heap.get?_push_size _ rfl)
 show _/\_
 rw[z1] at g2
 rw[z1]
 exact⟨⟨_,g2,rfl⟩,h _ g2 ⟨_,g1,rfl,rfl⟩ fun c o q=>Heap.get?_push_of_some _ (Heap.get?_push_of_some _ q)⟩
end
def IteT (K:PySem.W.Frag)(a:Addr):It :=
 ⟨fun i H=>∃xs x,SqT K H a xs/\xs[i]?=some x,fun i H x H'=>∃p y,H p=none/\x=.ref p/\H'=upd H p (.tup [.int i,y])/\∀xs,SqT K H a xs->xs[i]?=some y,fun i H=>∃xs,SqT K H a xs/\xs.length<=i⟩
theorem turn_enumT {P:Program}{w:World}{K:PySem.W.Frag}{es:List Expr}{k:Nat}{pos:Pos}(a e it:Addr)(hne:e≠it):Turn P w K (.Tuple es k pos) (IteT K a) [e,it] e (fun i h=>(∃old,IsEnum h e it (i:Nat) old)/\ItK true h it a i) where
 mem:=by simp
 obj:=fun i h st b hb=>by
  obtain⟨⟨old,h1⟩,h2⟩:=st
  rcases List.mem_cons.mp hb with rfl|hb
  ·exact⟨_,h1,fun v z=>by cases z⟩
  ·have eb:b=it:=by simpa using hb
   subst eb
   obtain⟨o,e,c,d⟩:=h2
   exact⟨o,e,fun v z=>by rw[d] at z;cases z⟩
 keep:=fun i h h' st kk=>by
  obtain⟨⟨old,h1⟩,h2⟩:=st
  exact⟨⟨old,kk e (by simp) _ h1⟩,h2.at fun o q=>kk it (by simp) o q⟩
 item:=by
  intro X hP hw hK hc i pins s σ H E I hf st hg
  subst hP hw hK
  obtain⟨⟨old,h1⟩,h2⟩:=st
  obtain⟨xs,x,hq,hx⟩:=hg
  obtain⟨its,rv,p,hz⟩:=I.tuple hq
  obtain⟨u,hu,ru⟩:=rv.get hx
  refine nextE_item h1 h2 (show SqK true s.heap a its.toArray from p) (x:=u) (by simpa using hu) hne fun h' a1 a2 a3 a5=>⟨_,rfl,wpAny_letOwnedTupleGo_enum a1 fun h'' b1 b2=>?_⟩
  have ge:e≠s.heap.objs.size:=Nat.ne_of_lt (Heap.lt_size h1)
  have kk:∀b u,b ∉ [e,it]->s.heap.get? b=some u->h''.get? b=some u:=fun b u nb q=>(b2.2 b (fun z=>nb (by simp[z]))).trans (a5 b u (fun z=>nb (by simp[z])) (fun z=>nb (by simp[z])) q)
  have hT:h''.get? s.heap.objs.size=some { cls:=.type "tuple", data:=.seq #[.int i s.toks,u] }:=(b2.2 _ (Ne.symm ge)).trans a3
  have git:it≠s.heap.objs.size:=by obtain⟨o,e,_⟩:=id h2;exact Nat.ne_of_lt (Heap.lt_size e)
  refine⟨.ref s.heap.objs.size,_,I.turnedT (o:=.tup [.int i,x]) (t':=s.toks+1) hf kk (Nat.le_refl _) ⟨by show 2<=sizeLine;decide,[.int i s.toks,u],.cons ⟨_,rfl⟩ (.cons ru .nil),⟨_,hT,rfl,_,rfl⟩⟩,rfl,
   ⟨_,x,I.fresh,rfl,rfl,fun ys hy=>by rw[I.tuple_inj hy hq];exact hx⟩,⟨⟨u,by simpa using b1⟩,a2.at fun o q=>(b2.2 it (Ne.symm hne)).trans q⟩,fun b hb=>?_⟩
  have:b≠s.heap.objs.size:=by
   rcases List.mem_cons.mp hb with rfl|hb
   ·exact ge
   ·have eb:b=it:=by simpa using hb
    subst eb;exact git
  rw[Zj this];exact(hf b hb).1
 done:=by
  intro X hP hw hK hc i pins s σ H E I hf st hg
  subst hP hw hK
  obtain⟨⟨old,h1⟩,h2⟩:=st
  obtain⟨xs,hq,hx⟩:=hg
  obtain⟨its,rv,p,hz⟩:=I.tuple hq
  have hl:=rv.length
  exact nextE_end (I.ok.hd hc) h1 h2 (show SqK true s.heap a its.toArray from p) (by simp;lia) fun h' eb=>⟨rfl,I.turnedF (t':=s.toks) hf fun b u nb q=>eb b u (fun z=>nb (by simp[z])) q⟩
 self:=fun _ _ _ _ _ st h=>let ⟨⟨_,h1⟩,_⟩:=st;wpAny_pyIter_enum h1 h
section
variable {X:Cx} {E:XK} {pos p p2:Pos} {es:List Expr} {k:Nat}
def iEnT (K:PySem.W.Frag)(tl:TA):TI:=fun σ H R=>tl σ H fun vs H1=>∃a,vs=[.ref a]/\(∃xs,SqT K H1 a xs)/\R (IteT K a) H1
theorem pi_enumT {l:Expr}{tl:TA} (hg:Gl X "enumerate") (hm:X.mg "enumerate" = none) (hl:PA X [l] tl) (hs:starEach [l] X.env=[(false,eval l X.env)]:=by rfl):PI X (.Tuple es k p2) (.Call (.Name "enumerate" p) [l] [] pos) (iEnT X.K tl):=by
 intro pins s σ H R I h
 refine Call_ (ld_blt I hg hm boot_enumerate (PyProof.Rows.callWith_type1 (thn (hl pos pins s σ H _ I h) fun us s1 ⟨vs,H1,I1,r1,q1⟩=>?_) hs rfl))
 obtain⟨a,rfl,⟨xs,hq⟩,q⟩:=q1
 obtain⟨u,rfl,rx⟩:=vals1 r1
 cases rx
 obtain⟨its,rv,pl,hz⟩:=I1.tuple hq
 refine callE (show SqK true s1.heap a its.toArray from pl) fun h' e1 e2 e4=>wpAny_pyIter_enum e1 ?_
 have I2:Inv X pins σ H1 { s1 with heap:=h' }:=I1.kept (t':=s1.toks) e4
 refine⟨s1.heap.objs.size+1,[s1.heap.objs.size+1,s1.heap.objs.size],_,_,H1,rfl,I2,turn_enumT a (s1.heap.objs.size+1) s1.heap.objs.size (Nat.succ_ne_self _),⟨⟨_,by simpa using e1⟩,e2⟩,fun b hb=>?_,q⟩
 have hb:s1.heap.objs.size<=b:=by simp at hb;rcases hb with rfl|rfl<;>lia
 exact I1.fpOk hb (I1.hok.fresh hb)
def iEnumT (fs:DSt->M (List D))(sd:DSt):M (List D):=(fs sd).bind fun ds=>match ds with
 |[.tup xs]=>.ok (enumD 0 xs)
 |_=>.bad
theorem iteT_ok {K:PySem.W.Frag}{Hf H:Hp}{a:Addr}{xs:List V}{ds:List D}(h:SqT K Hf a xs)(r:Reps K Hf ds xs):ItOk K Hf H (enumD 0 ds) (IteT K a):=by
 intro i Hf1 H1 e1 e2
 have h2:=e2.seqT (e1.seqT h)
 rw[enumD_get]
 cases q:ds[i]? with
 |some d =>
  obtain⟨x,ex,rx⟩:=r.get q
  refine⟨⟨xs,x,h2,ex⟩,fun y H2 hy=>?_⟩
  obtain⟨p,y',hp,rfl,rfl,hall⟩:=hy
  have ey:=hall xs h2
  rw[ex] at ey
  cases ey
  exact⟨_,Gr.alloc e2 hp _,Gr.tup e2 hp (Reps.cons (rep_int.mpr (by simp)) (Reps.cons (rx.mono e1) Reps.nil))⟩
 |none=>exact⟨xs,h2,List.getElem?_eq_none_iff.mp (r.none_of q)⟩
theorem pid_enumT {l:Expr}{fs:DSt->M (List D)} (hg:Gl X "enumerate") (hm:X.mg "enumerate" = none) (h:PAd X E [l] fs) (hs:starEach [l] X.env=[(false,eval l X.env)]:=by rfl):PId X E (.Tuple es k p2) (.Call (.Name "enumerate" p) [l] [] pos) (iEnumT fs):=by
 obtain⟨t,pt,q⟩:=h
 refine⟨_,pi_enumT hg hm pt hs,fun H0 B Hf sd σ H R sr h=>?_⟩
 refine q H0 B Hf sd σ H _ sr (Po.bind h fun ds vs Hf1 H1 _ g1 rs h1=>?_)
 split at h1
 ·rename_i xs
  obtain⟨v,rfl,rv⟩:=reps1 rs
  obtain⟨a,ys,rfl,ha,hr⟩:=Z2 rv
  exact⟨a,rfl,⟨ys,g1.sub.seqT ha⟩,Po.ret (R:=ItOk X.K) g1.sub h1 (iteT_ok ha hr)⟩
 ·exact h1.elim
end
end DL
namespace DL
open PySem PySem.Spec PyProof.Rows L2 PySem.W
def runO (q:Nat->Nat->Option Bool){α:Type}:KasT α->Option α
 |.ret a=>some a
 |.ask i j k=>match q i j with
  |some b=>runO q (k b)
  |none=>none
theorem runO_wp {q:Nat->Nat->Option Bool}{cmp:Nat->Nat->(Bool->Shared->Prop)->Shared->Prop}{α:Type}{Q:α->Shared->Prop}{s:Shared}{a:α}(hc:∀i j b C,q i j=some b->C b s->cmp i j C s):∀t:KasT α,runO q t=some a->Q a s->t.kasWp cmp Q s
 |.ret b,e,h=>by
  cases (Option.some.inj (show some b=some a from e))
  exact h
 |.ask i j k,e,h=>by
  unfold runO at e
  cases z:q i j with
  |none=>rw[z] at e;cases e
  |some b =>
   rw[z] at e
   exact hc i j b _ z (runO_wp hc (k b) e h)
def ltA:V->V->Option Bool
 |.int a,.int b=>some (decide (a<b))
 |.str a,.str b=>some (decide (a.cps.toList<b.cps.toList))
 |_,_=>none
def eqA:V->V->Option Bool
 |.int a,.int b=>some (a==b)
 |.str a,.str b=>some (a==b)
 |_,_=>none
def ltR:List V->List V->Option Bool
 |[],[]=>some false
 |x::xs,y::ys=>match eqA x y with
  |some true=>ltR xs ys
  |some false=>ltA x y
  |none=>none
 |_,_=>none
section
variable {prog:Program} {w:World} {A:Around} {E:Value->Shared->Prop} {s:Shared}
theorem eqA_ok {x y:V}{u v:Value}{b:Bool}{Q:Bool->Shared->Prop}(h:eqA x y=some b)(rx:RelV x u)(ry:RelV y v)(q:Q b s):wpAny (model prog w) A (eqBool u v) Q E s:=by
 unfold eqA at h
 split at h
 ·obtain⟨t,rfl⟩:=rx
  obtain⟨t',rfl⟩:=ry
  cases h
  exact wpAny_eqBool_int q
 ·obtain⟨t,rfl⟩:=rx
  obtain⟨t',rfl⟩:=ry
  cases h
  exact PyProof.Rows.eqBool_str q
 ·cases h
theorem ltA_ok {o:Bool}{x y:V}{u v:Value}{b:Bool}{Q:Bool->Shared->Prop}(h:ltA x y=some b)(rx:RelV x u)(ry:RelV y v)(q:Q b s):wpAny (model prog w) A (oneLt' o u v) Q E s:=by
 unfold ltA at h
 split at h
 ·obtain⟨t,rfl⟩:=rx
  obtain⟨t',rfl⟩:=ry
  cases h
  cases o with
  |true=>exact oneLt_int q
  |false=>exact kat_one _ _ (PyProof.Rows.lt_int q)
 ·obtain⟨t,rfl⟩:=rx
  obtain⟨t',rfl⟩:=ry
  cases h
  cases o with
  |true=>exact PyProof.Rows.oneLt_str q
  |false=>exact kat_one _ _ (PyProof.Rows.lt_str q)
 ·cases h
theorem ltR_ok {o:Bool}{r:Bool}{Q:Bool->Shared->Prop}:∀{xs ys:List V} {us vs:List Value} (i:Nat),ltR xs ys=some r->Vals xs us->Vals ys vs->Q r s->KatLex prog w A o false Q (us.zip vs) i s
 |[],[],_,_,i,h,.nil,.nil,q=>by
  cases (Option.some.inj (show some false=some r from h))
  exact kat_nil q
 |x::xs,y::ys,_,_,i,h,.cons rx r1,.cons ry r2,q=>by
  unfold ltR at h
  refine kat_cons ?_
  cases z:eqA x y with
  |none=>rw[z] at h;cases h
  |some b =>
   rw[z] at h
   refine eqA_ok z rx ry ?_
   cases b with
   |true=>exact kat_yes (ltR_ok (i+1) h r1 r2 q)
   |false=>exact kat_no (ltA_ok h rx ry q)
 |[],_::_,_,_,_,h,_,_,_=>by cases h
 |_::_,[],_,_,_,h,_,_,_=>by cases h
theorem sortT_tree {a:Addr}{vs:List Value}{n:Nat}{κ:SortKind}{q:Nat->Nat->Option Bool}{p:Array Nat}{P:Fin->Shared->Prop} (ho:s.heap.get? a=some (seqObj "list" vs.toArray n)) (h2:2<=vs.length) (h64:vs.length<64)
  (hk:∀h',(∀b o,b≠a->s.heap.get? b=some o->h'.get? b=some o)->∀Q:SortKind->Shared->Prop,Q κ { s with heap:=h' }->wpAny (model prog w) A (keyKind' vs.toArray) Q E { s with heap:=h' })
  (hq:∀h',(∀b o,b≠a->s.heap.get? b=some o->h'.get? b=some o)->∀i j b (C:Bool->Shared->Prop),q i j=some b->C b { s with heap:=h' }->kas_ask prog w A κ vs i j C { s with heap:=h' })
  (hp:runO q (kas_sort vs.length)=some p) (h:p.size=vs.length->P (.done (.ret .none)) { s with heap:=sortedHeap s.heap a vs (p.toList.map fun i=>vs.getD i Value.none).toArray }) :
  wpAny (model prog w) A (Builtin.«list.sort» ⟨[.ref a],[]⟩) P E s:=by
 have la:a<s.heap.objs.size:=Heap.lt_size ho
 obtain⟨e1,ho1⟩:∃e1,(s.heap.update a (Obj.mapSeq fun _=>#[])).get? a=some (seqObj "list" #[] e1):=⟨_,get?_update_seq ho fun _=>#[]⟩
 have keep:∀b o,b≠a->s.heap.get? b=some o->(((s.heap.update a (Obj.mapSeq fun _=>#[])).push (seqObj "tuple" vs.toArray 0)).push (seqObj "list" #[] 0)).get? b=some o :=
  fun b o nb e=>Heap.get?_push_of_some _ (Heap.get?_push_of_some _ ((Heap.get?_update_other _ _ (Ne.symm nb)).trans e))
 have ho6:(((s.heap.update a (Obj.mapSeq fun _=>#[])).push (seqObj "tuple" vs.toArray 0)).push (seqObj "list" #[] 0)).get? a=some (seqObj "list" #[] e1):=Heap.get?_push_of_some _ (Heap.get?_push_of_some _ ho1)
 have z1:vs.toArray.size<=sizeLine:=by rw[List.size_toArray,sizeLine_eq];lia
 have n2:¬vs.toArray.size<2:=by rw[List.size_toArray];lia
 rw[list_sort_plain]
 refine wpAny_bind (listItems_at ho rfl (wpAny_bind (listUpdate_at ho rfl (wpAny_bind (seqEpoch_at ho1 rfl (wpAny_bind (wpAny_newTuple (wpAny_bind (wpAny_newList (wpAny_holding ?_) (Nat.zero_le _))) (by simpa using z1))))) z1 (Nat.zero_le _))))
 dsimp only
 rw[if_neg n2,if_neg n2]
 refine wpAny_bind (hk _ keep _ ?_)
 have hz:(vs.toArray.zip vs.toArray)=pairsOf vs:=rfl
 refine wpAny_bind (wpAny_mono (kat_run (ks:=vs) (vs:=vs) (κ:=κ) (Q:=fun st' s'=>p.size=vs.length/\arrOf st'=p.map (kas_item (vs.toArray.zip vs.toArray))/\failedOf st'=none/\s'=_) (G:=fun p' s'=>p'=p/\s'=_) rfl h2 h64
  (fun p' st' s' a1 a2 a3 a4=>by obtain⟨rfl,e⟩:=a4;exact⟨a1,a2,a3,e⟩) (runO_wp (hq _ keep) _ hp ⟨rfl,rfl⟩)) ?_ fun _ _ x=>x)
 rintro⟨⟨⟩,st'⟩ s' ⟨zz,har,hf,rfl⟩
 dsimp only
 have hout:=kat_snds (ks:=vs) (vs:=vs) rfl har
 refine wpAny_bind (seqEpoch_at ho6 rfl (wpAny_bind (listUpdate_at ho6 rfl ?_ (Nat.zero_le _) (by rw[hout,List.size_toArray,List.length_map,Array.length_toList,zz,sizeLine_eq];lia))))
 rw[hf]
 simp only[bne_self_eq_false,Bool.false_eq_true,if_false]
 rw[hout]
 exact wpAny_pure (h zz)
theorem collectK {t:Bool}{l:Addr}{vs:List Value}{Q:List Value->Shared->Prop}(hl:SqK t s.heap l vs.toArray) (h:Q vs { s with heap:=(s.heap.push (seqObj "list" #[] 0)).update s.heap.objs.size (Obj.mapSeq (·++vs.toArray)) }) (hz:vs.length<=sizeLine) :
  wpAny (model prog w) A (collect (.ref l)) Q E s:=by
 cases t with
 |false=>exact collect_list (show s.heap.IsList l vs.toArray from hl) h hz
 |true =>
  obtain⟨o,ho,hc,n,hd⟩:=id hl
  have ho':(s.heap.push (seqObj "list" #[] 0)).get? l=some o:=Heap.get?_push_of_some _ ho
  have hn:(s.heap.push (seqObj "list" #[] 0)).get? s.heap.objs.size=some (seqObj "list" #[] 0):=Heap.get?_push_size _ rfl
  unfold collect
  refine wpAny_bind (wpAny_runValue (codeAny_builtin entry_proto_collect' (wpAny_bind (m:=newList []) (wpAny_newList (wpAny_pure ⟨Code.quiet_builtin _ (by decide +kernel),codeAny_builtin entry_list_iadd' ?_⟩)))))
  change wpAny _ _ (Builtin.List.listExtendWith _ _ _) _ _ _
  unfold Builtin.List.listExtendWith
  refine wpAny_bind (wpAny_typeOf (T := "tuple") ⟨o,ho',hc⟩ ?_)
  have ht:(Value.type "tuple" == Value.type "tuple")=true:=by rfl
  rw[if_pos (by rw[ht];simp)]
  refine wpAny_bind (listItems_at ho' hd (wpAny_bind (listItems_at hn rfl ?_)))
  rw[if_neg (by simp)]
  refine wpAny_bind (listUpdate_at hn rfl (wpAny_pure ?_) (Nat.zero_le _) (by show(#[]++vs.toArray).size<=_;simp only[Array.size_append,List.size_toArray,List.length_nil];lia))
  change wpAny _ _ (do
   let o <-load s.heap.objs.size
   match o.data with
   |.seq xs _=>pure xs.toList
   |_=>unsupported "internal:collect") Q E _
  refine wpAny_bind (wpAny_load (get?_update_seq hn _) ?_)
  change wpAny _ _ (pure ((#[]:Array Value)++vs.toArray).toList) Q E _
  have e0:((#[]:Array Value)++vs.toArray).toList=vs:=by simp
  rw[e0]
  exact wpAny_pure h
theorem sortedT {t:Bool}{l:Addr}{vs:List Value}{κ:SortKind}{q:Nat->Nat->Option Bool}{p:Array Nat}{Q:Value->Shared->Prop}(hl:SqK t s.heap l vs.toArray)(h2:2<=vs.length)(h64:vs.length<64)(hk:∀A' E' h',(∀b o,s.heap.get? b=some o->h'.get? b=some o)->∀Q:SortKind->Shared->Prop,Q κ { s with heap:=h' }->wpAny (model prog w) A' (keyKind' vs.toArray) Q E' { s with heap:=h' })(hq:∀A' h',(∀b o,s.heap.get? b=some o->h'.get? b=some o)->∀i j b (C:Bool->Shared->Prop),q i j=some b->C b { s with heap:=h' }->kas_ask prog w A' κ vs i j C { s with heap:=h' })(hp:runO q (kas_sort vs.length)=some p)(h:p.size=vs.length->Q (.ref (s.heap.objs.size+1)) { s with heap:=sortedAll s.heap vs (p.toList.map fun i=>vs.getD i Value.none).toArray }) :
  wpAny (model prog w) A (call (.builtin "sorted") [.ref l]) Q E s:=by
 have z1:vs.length<=sizeLine:=by rw[sizeLine_eq];lia
 refine Calls.call_function_entry kind_sorted plain_sorted entry_sorted (args_sorted1 _) ?_
 unfold Builtin.«sorted»
 refine wpAny_bind (m:=checkCount "sorted" 1 1 _) (wpAny_pure (wpAny_bind (collectK hl (wpAny_bind (wpAny_newList ?_ z1)) z1)))
 have hsz:((s.heap.push (seqObj "list" #[] 0)).update s.heap.objs.size (Obj.mapSeq (·++vs.toArray))).objs.size=s.heap.objs.size+1:=(Heap.size_update ..).trans (size_push' ..)
 have hoL:(((s.heap.push (seqObj "list" #[] 0)).update s.heap.objs.size (Obj.mapSeq (·++vs.toArray))).push (seqObj "list" vs.toArray 0)).get? (s.heap.objs.size+1)=some (seqObj "list" vs.toArray 0):=hsz▸Heap.get?_push_size _ rfl
 have keep:∀b o,s.heap.get? b=some o->(((s.heap.push (seqObj "list" #[] 0)).update s.heap.objs.size (Obj.mapSeq (·++vs.toArray))).push (seqObj "list" vs.toArray 0)).get? b=some o:=fun b o e =>
  Heap.get?_push_of_some _ ((Heap.get?_update_other _ _ (Nat.ne_of_gt (Heap.lt_size e))).trans (Heap.get?_push_of_some _ e))
 have nb:∀b o,s.heap.get? b=some o->b≠s.heap.objs.size+1:=fun b o e=>Nat.ne_of_lt (Nat.lt_succ_of_lt (Heap.lt_size e))
 change wpAny _ _ _ _ _ { s with heap:=((s.heap.push (seqObj "list" #[] 0)).update s.heap.objs.size (Obj.mapSeq (·++vs.toArray))).push (seqObj "list" vs.toArray 0) }
 rw[hsz]
 refine wpAny_bind (wpAny_holding (wpAny_call_entry slot_list_sort ⟨_,hoL,rfl⟩ entry_list_sort (sortT_tree (κ:=κ) (q:=q) (p:=p) hoL h2 h64 (fun h' e Q hQ=>hk _ _ h' (fun b o z=>e b o (nb b o z) (keep b o z)) Q hQ)
  (fun h' e=>hq _ h' fun b o z=>e b o (nb b o z) (keep b o z)) hp fun hz=>⟨_,rfl,wpAny_pure ⟨_,rfl,h hz⟩⟩) (args_list_sort _)))
theorem sort0_tree {a:Addr}{vs:List Value}{n:Nat}{P:Fin->Shared->Prop} (ho:s.heap.get? a=some (seqObj "list" vs.toArray n)) (h2:vs.length<2)
  (h:P (.done (.ret .none)) { s with heap:=sortedHeap s.heap a vs vs.toArray }):wpAny (model prog w) A (Builtin.«list.sort» ⟨[.ref a],[]⟩) P E s:=by
 obtain⟨e1,ho1⟩:∃e1,(s.heap.update a (Obj.mapSeq fun _=>#[])).get? a=some (seqObj "list" #[] e1):=⟨_,get?_update_seq ho fun _=>#[]⟩
 have ho6:(((s.heap.update a (Obj.mapSeq fun _=>#[])).push (seqObj "tuple" vs.toArray 0)).push (seqObj "list" #[] 0)).get? a=some (seqObj "list" #[] e1):=Heap.get?_push_of_some _ (Heap.get?_push_of_some _ ho1)
 have z1:vs.toArray.size<=sizeLine:=by rw[List.size_toArray,sizeLine_eq];lia
 rw[list_sort_plain]
 refine wpAny_bind (listItems_at ho rfl (wpAny_bind (listUpdate_at ho rfl (wpAny_bind (seqEpoch_at ho1 rfl (wpAny_bind (wpAny_newTuple (wpAny_bind (wpAny_newList (wpAny_holding ?_) (Nat.zero_le _))) (by simpa using z1))))) z1 (Nat.zero_le _))))
 dsimp only
 have n2:vs.toArray.size<2:=by rw[List.size_toArray];exact h2
 rw[if_pos n2,if_pos n2]
 refine wpAny_bind (wpAny_pure ?_)
 rw[StateT.run_pure]
 refine wpAny_bind (wpAny_pure ?_)
 dsimp only
 have eo:(vs.toArray.zip vs.toArray).map (·.2)=vs.toArray:=by
  apply Array.toList_inj.mp
  rw[Array.toList_map,Array.toList_zip,List.map_snd_zip]
  lia
 refine wpAny_bind (seqEpoch_at ho6 rfl (wpAny_bind (listUpdate_at ho6 rfl ?_ (Nat.zero_le _) (by show((vs.toArray.zip vs.toArray).map (·.2)).size<=_;rw[eo];lia))))
 simp only[bne_self_eq_false,Bool.false_eq_true,if_false]
 change wpAny _ _ (ret .none) _ _ { s with heap:=sortedHeap s.heap a vs ((vs.toArray.zip vs.toArray).map (·.2)) }
 rw[eo]
 exact wpAny_pure h
theorem sorted0 {t:Bool}{l:Addr}{vs:List Value}{Q:Value->Shared->Prop}(hl:SqK t s.heap l vs.toArray)(h2:vs.length<2)(h:Q (.ref (s.heap.objs.size+1)) { s with heap:=sortedAll s.heap vs vs.toArray }) :
  wpAny (model prog w) A (call (.builtin "sorted") [.ref l]) Q E s:=by
 have z1:vs.length<=sizeLine:=by rw[sizeLine_eq];lia
 refine Calls.call_function_entry kind_sorted plain_sorted entry_sorted (args_sorted1 _) ?_
 unfold Builtin.«sorted»
 refine wpAny_bind (m:=checkCount "sorted" 1 1 _) (wpAny_pure (wpAny_bind (collectK hl (wpAny_bind (wpAny_newList ?_ z1)) z1)))
 have hsz:((s.heap.push (seqObj "list" #[] 0)).update s.heap.objs.size (Obj.mapSeq (·++vs.toArray))).objs.size=s.heap.objs.size+1:=(Heap.size_update ..).trans (size_push' ..)
 have hoL:(((s.heap.push (seqObj "list" #[] 0)).update s.heap.objs.size (Obj.mapSeq (·++vs.toArray))).push (seqObj "list" vs.toArray 0)).get? (s.heap.objs.size+1)=some (seqObj "list" vs.toArray 0):=hsz▸Heap.get?_push_size _ rfl
 change wpAny _ _ _ _ _ { s with heap:=((s.heap.push (seqObj "list" #[] 0)).update s.heap.objs.size (Obj.mapSeq (·++vs.toArray))).push (seqObj "list" vs.toArray 0) }
 rw[hsz]
 exact wpAny_bind (wpAny_holding (wpAny_call_entry slot_list_sort ⟨_,hoL,rfl⟩ entry_list_sort (sort0_tree hoL h2 ⟨_,rfl,wpAny_pure ⟨_,rfl,h⟩⟩) (args_list_sort _)))
end
def headS:List V->Bool
 |.str _::_=>true
 |_=>false
def headI:List V->Bool
 |.int _::_=>true
 |_=>false
def RowsH (h:Heap):List Value->List (List V)->Prop:=Paired fun u y=>∃a us,u=Value.ref a/\IsTup h a us.toArray/\Vals y us
theorem RowsH.mono {h h':Heap}{us:List Value}{ys:List (List V)}(k:∀b o,h.get? b=some o->h'.get? b=some o)(r:RowsH h us ys):RowsH h' us ys :=
 Paired.mapP r fun u y q=>by
  obtain⟨a,vs,e,⟨o,e1,e2⟩,e3⟩:=q
  exact⟨a,vs,e,⟨o,k _ _ e1,e2⟩,e3⟩
theorem RowsH.firstS {h:Heap}:∀{us:List Value} {ys:List (List V)},RowsH h us ys->ys.all headS=true->∃fs,KatTups h us fs/\(∀v∈fs,∃x t,v=Value.str x t)/\fs.length=us.length
 |_,_,.nil,_=>⟨[],KatTups.nil,fun v hv=>(by cases hv),rfl⟩
 |_,y::ys,.cons q r,hs=>by
  rw[List.all_cons,Bool.and_eq_true] at hs
  obtain⟨fs,k1,k2,k3⟩:=RowsH.firstS r hs.2
  obtain⟨a,vs,rfl,⟨o,e1,e2,n,e3⟩,e4⟩:=q
  cases y with
  |nil=>simp[headS] at hs
  |cons z y =>
   cases z with
   |str x =>
    cases e4 with
    |cons rx rr =>
     obtain⟨t,rfl⟩:=rx
     exact⟨Value.str x t::fs,KatTups.cons e1 e2 e3 (by simp) k1,fun v hv=>by
      rcases List.mem_cons.mp hv with rfl|hv
      ·exact⟨x,t,rfl⟩
      ·exact k2 v hv,by rw[List.length_cons,List.length_cons,k3]⟩
   |_=>simp[headS] at hs
theorem RowsH.firstI {h:Heap}:∀{us:List Value} {ys:List (List V)},RowsH h us ys->ys.all headI=true->∃fs,KatTups h us fs/\(∀v∈fs,∃x t,v=Value.int x t)/\fs.length=us.length
 |_,_,.nil,_=>⟨[],KatTups.nil,fun v hv=>(by cases hv),rfl⟩
 |_,y::ys,.cons q r,hs=>by
  rw[List.all_cons,Bool.and_eq_true] at hs
  obtain⟨fs,k1,k2,k3⟩:=RowsH.firstI r hs.2
  obtain⟨a,vs,rfl,⟨o,e1,e2,n,e3⟩,e4⟩:=q
  cases y with
  |nil=>simp[headI] at hs
  |cons z y =>
   cases z with
   |int x =>
    cases e4 with
    |cons rx rr =>
     obtain⟨t,rfl⟩:=rx
     exact⟨Value.int x t::fs,KatTups.cons e1 e2 e3 (by simp) k1,fun v hv=>by
      rcases List.mem_cons.mp hv with rfl|hv
      ·exact⟨x,t,rfl⟩
      ·exact k2 v hv,by rw[List.length_cons,List.length_cons,k3]⟩
   |_=>simp[headI] at hs
theorem RowsH.get {h:Heap}:∀{us:List Value} {ys:List (List V)} {i:Nat} {y:List V},RowsH h us ys->ys[i]?=some y->∃a vs,us.getD i Value.none=Value.ref a/\IsTup h a vs.toArray/\Vals y vs
 |_,_,_,_,.nil,e=>by simp at e
 |_,_,0,_,.cons q _,e=>by
  simp at e
  subst e
  obtain⟨a,vs,rfl,e1,e2⟩:=q
  exact⟨a,vs,rfl,e1,e2⟩
 |_,_,i+1,_,.cons _ r,e=>by
  obtain⟨a,vs,e1,e2,e3⟩:=RowsH.get (i:=i) r (by simpa using e)
  exact⟨a,vs,by simpa using e1,e2,e3⟩
def askR (ys:List (List V))(i j:Nat):Option Bool:=match ys[i]?,ys[j]? with
 |some x,some y=>if x.length=y.length then ltR x y else none
 |_,_=>none
theorem askR_ok {prog:Program}{w:World}{A:Around}{s:Shared}{o:Bool}{us:List Value}{ys:List (List V)}(r:RowsH s.heap us ys){i j:Nat}{b:Bool}{C:Bool->Shared->Prop}(e:askR ys i j=some b)(h:C b s):kas_ask prog w A (tuples' o) us i j C s:=by
 unfold askR at e
 split at e
 ·rename_i x y ex ey
  split at e
  ·rename_i hl
   obtain⟨a,vs,e1,⟨o1,e2,_,n,e3⟩,e4⟩:=r.get ex
   obtain⟨a',vs',e1',⟨o1',e2',_,n',e3'⟩,e4'⟩:=r.get ey
   unfold kas_ask
   rw[e1,e1']
   refine kat_lt e2 e3 e2' e3' ?_
   have l1:=e4.length
   have l2:=e4'.length
   have:decide (vs.toArray.size<vs'.toArray.size)=false:=decide_eq_false (by rw[List.size_toArray,List.size_toArray];lia)
   rw[this]
   exact ltR_ok 0 e e4 e4' h
  ·cases e
 ·cases e
def RowsT (H:Hp):List V->List (List V)->Prop:=Paired fun z y=>∃a,z=V.ref a/\H a=some (.tup y)
theorem rows_h {X:Cx}{pins:List (Addr×Obj)}{σ:L2.St}{H:Hp}{s:Shared}(I:Inv X pins σ H s):∀{zs:List V} {ys:List (List V)} {us:List Value},RowsT H zs ys->Vals zs us->RowsH s.heap us ys
 |_,_,_,.nil,.nil=>.nil
 |_,_,_,.cons q r,.cons v t=>.cons (by
   obtain⟨a,rfl,e⟩:=q
   cases v
   obtain⟨its,rv,p,_⟩:=I.tuple (SqT.of e)
   exact⟨a,its,rfl,p,rv⟩) (rows_h I r t)
theorem vals_pick {zs:List V}{us:List Value}(r:Vals zs us):∀l:List Nat,Vals (l.map fun i=>zs.getD i .non) (l.map fun i=>us.getD i Value.none)
 |[]=>.nil
 |i::l=>.cons (by
   by_cases h:i<zs.length
   ·obtain⟨u,e1,e2⟩:=r.get (List.getElem?_eq_getElem h)
    dsimp only
    rw[List.getD_eq_getElem?_getD,List.getD_eq_getElem?_getD,e1,List.getElem?_eq_getElem h]
    exact e2
   ·have h1:zs[i]?=none:=List.getElem?_eq_none_iff.mpr (by lia)
    have h2:us[i]?=none:=r.none_of h1
    dsimp only
    rw[List.getD_eq_getElem?_getD,List.getD_eq_getElem?_getD,h1,h2]
    exact rfl) (vals_pick r l)
section
variable {X:Cx} {E:XK}
theorem call_sortR:CallR X (.builtin "sorted") (fun xs H Q=>∃(t:Bool) (p:Addr) (zs:List V) (ys:List (List V)) (q:Array Nat),xs=[.ref p]/\SqG t X.K H p zs/\RowsT H zs ys/\2<=zs.length/\zs.length<64/\(ys.all headS||ys.all headI)=true /\
  runO (askR ys) (kas_sort zs.length)=some q/\∀l,H l=none->Q (.ref l) (upd H l (.lst (q.toList.map fun i=>zs.getD i .non)))):=by
 intro pins s σ H xs us Q I r h
 obtain⟨t,p,zs,ys,q,rfl,hp,hr,h2,h64,hh,hq,k⟩:=h
 obtain⟨u,rfl,rx⟩:=vals1 r
 cases rx
 obtain⟨its,rv,pl⟩:=inv_sqg I hp
 have hl:=rv.length
 have rows:=rows_h I hr rv
 have kind:∃o:Bool,∀A' E' h',(∀b o,s.heap.get? b=some o->h'.get? b=some o)->∀Q:SortKind->Shared->Prop,Q (tuples' o) { s with heap:=h' }->wpAny (model X.prog X.w) A' (keyKind' its.toArray) Q E' { s with heap:=h' }:=by
  rcases Bool.or_eq_true _ _▸hh with hh|hh
  ·refine⟨Value.type "str" != Value.type "tuple", fun A' E' h' e Q hQ=>?_⟩
   obtain⟨fs,k1,k2,k3⟩:=(rows.mono e).firstS hh
   exact kat_kind (s:={ s with heap:=h' }) (T:=Value.type "str") k1 (by lia) (fun v hv=>by obtain⟨x,t,rfl⟩:=k2 v hv;exact Looks.of_pure rfl) (by rfl) hQ
  ·refine⟨Value.type "int" != Value.type "tuple", fun A' E' h' e Q hQ=>?_⟩
   obtain⟨fs,k1,k2,k3⟩:=(rows.mono e).firstI hh
   exact kat_kind (s:={ s with heap:=h' }) (T:=Value.type "int") k1 (by lia) (fun v hv=>by obtain⟨x,t,rfl⟩:=k2 v hv;exact Looks.of_pure rfl) (by rfl) hQ
 obtain⟨o,kind⟩:=kind
 refine sortedT (κ:=tuples' o) (q:=askR ys) (p:=q) pl (by lia) (by lia) kind (fun A' h' e i j b C z c=>askR_ok (s:={ s with heap:=h' }) (rows.mono e) z c) (by rw[<-hl];exact hq) fun hz=>?_
 obtain⟨n,he⟩:=sortedAll_at s.heap its (q.toList.map fun i=>its.getD i Value.none).toArray
 refine⟨.ref (s.heap.objs.size+1),_,I.laid (t':=s.toks) (o:=.lst (q.toList.map fun i=>zs.getD i .non)) (fun b o e=>sortedAll_old e) (Nat.le_succ _) ?_,rfl,k _ (I.hok.fresh (Nat.le_succ _))⟩
 refine⟨?_,(q.toList.map fun i=>its.getD i Value.none),n,vals_pick rv _,by simpa using he⟩
 rw[List.length_map,Array.length_toList,hz,sizeLine_eq]
 lia
theorem call_sortR0:CallR X (.builtin "sorted") (fun xs H Q=>(∃(t:Bool) (p:Addr) (zs:List V),xs=[.ref p]/\SqG t X.K H p zs/\zs.length<2/\∀l,H l=none->Q (.ref l) (upd H l (.lst zs))) \/
  ∃(t:Bool) (p:Addr) (zs:List V) (ys:List (List V)) (q:Array Nat),xs=[.ref p]/\SqG t X.K H p zs/\RowsT H zs ys/\2<=zs.length/\zs.length<64/\(ys.all headS||ys.all headI)=true /\
  runO (askR ys) (kas_sort zs.length)=some q/\∀l,H l=none->Q (.ref l) (upd H l (.lst (q.toList.map fun i=>zs.getD i .non)))):=by
 intro pins s σ H xs us Q I r h
 rcases h with h|h
 ·obtain⟨t,p,zs,rfl,hp,h2,k⟩:=h
  obtain⟨u,rfl,rx⟩:=vals1 r
  cases rx
  obtain⟨its,rv,pl⟩:=inv_sqg I hp
  have hl:=rv.length
  refine sorted0 pl (by lia) ?_
  obtain⟨n,he⟩:=sortedAll_at s.heap its its.toArray
  refine⟨.ref (s.heap.objs.size+1),_,I.laid (t':=s.toks) (o:=.lst zs) (fun b o e=>sortedAll_old e) (Nat.le_succ _) ?_,rfl,k _ (I.hok.fresh (Nat.le_succ _))⟩
  refine⟨?_,its,n,rv,by simpa using he⟩
  rw[sizeLine_eq]
  lia
 ·exact call_sortR _ _ _ _ _ _ _ I r h
def atomD:D->Option V
 |.int i=>some (.int i)
 |.str x=>some (.str x)
 |_=>none
def atomsD:List D->Option (List V)
 |[]=>some []
 |d::r=>match atomD d,atomsD r with
  |some v,some vs=>some (v::vs)
  |_,_=>none
def rowsD:List D->Option (List (List V))
 |[]=>some []
 |.tup ds::r=>match atomsD ds,rowsD r with
  |some v,some vs=>some (v::vs)
  |_,_=>none
 |_::_=>none
theorem atomD_rep {K:PySem.W.Frag}{H:Hp}{d:D}{v x:V}(e:atomD d=some v)(r:Rep K H d x):x=v:=by
 unfold atomD at e
 split at e
 ·cases e;exact rep_int.mp r
 ·cases e;exact rep_str.mp r
 ·cases e
theorem atomsD_reps {K:PySem.W.Frag}{H:Hp}:∀{ds:List D} {vs xs:List V},atomsD ds=some vs->Reps K H ds xs->xs=vs
 |[],vs,xs,e,r=>by
  cases e
  exact reps_nil.mp r
 |d::ds,vs,xs,e,r=>by
  obtain⟨x,t,rfl,h1,h2⟩:=reps_cons.mp r
  unfold atomsD at e
  split at e
  ·rename_i a b ea eb
   cases e
   rw[atomD_rep ea h1,atomsD_reps eb h2]
  ·cases e
theorem rowsD_reps {K:PySem.W.Frag}{H:Hp}:∀{ds:List D} {ys:List (List V)} {xs:List V},rowsD ds=some ys->Reps K H ds xs->RowsT H xs ys
 |[],ys,xs,e,r=>by
  cases e
  rw[reps_nil.mp r]
  exact .nil
 |d::ds,ys,xs,e,r=>by
  obtain⟨x,t,rfl,h1,h2⟩:=reps_cons.mp r
  cases d with
  |tup es =>
   unfold rowsD at e
   split at e
   ·rename_i a b ea eb
    cases e
    obtain⟨p,us,rfl,hp,hr⟩:=rep_tup.mp h1
    have:=atomsD_reps ea hr
    subst this
    exact .cons ⟨p,rfl,hp⟩ (rowsD_reps eb h2)
   ·cases e
  |_=>cases e
theorem RowsT.mono {H H':Hp}{xs:List V}{ys:List (List V)}(e:Same H H')(r:RowsT H xs ys):RowsT H' xs ys:=Paired.mapP r fun _ _ q=>by
 obtain⟨a,h1,h2⟩:=q
 exact⟨a,h1,e _ _ h2⟩
theorem reps_pick {K:PySem.W.Frag}{H:Hp}{ds:List D}{zs:List V}(r:Reps K H ds zs):∀l:List Nat,Reps K H (l.map fun i=>ds.getD i .non) (l.map fun i=>zs.getD i .non)
 |[]=>Reps.nil
 |i::l=>Reps.cons (by
   by_cases h:i<ds.length
   ·obtain⟨x,e1,e2⟩:=r.get (List.getElem?_eq_getElem h)
    dsimp only
    rw[List.getD_eq_getElem?_getD,List.getD_eq_getElem?_getD,e1,List.getElem?_eq_getElem h]
    exact e2
   ·have h1:ds[i]?=none:=List.getElem?_eq_none_iff.mpr (by lia)
    have h2:zs[i]?=none:=r.none_of h1
    dsimp only
    rw[List.getD_eq_getElem?_getD,List.getD_eq_getElem?_getD,h1,h2]
    exact rep_non.mpr rfl) (reps_pick r l)
def sortRD (ds:List D):M D:=match rowsD ds with
 |some ys=>if 2<=ds.length/\ds.length<64/\(ys.all headS||ys.all headI)=true then(match runO (askR ys) (kas_sort ds.length) with
   |some p=>.ok (.lst (p.toList.map fun i=>ds.getD i .non))
   |none=>.bad) else .bad
 |none=>.bad
def sortR0 (ds:List D):M D:=if ds.length<2 then .ok (.lst ds) else sortRD ds
def bSortR:List D->M D
 |[.lst ds]=>sortR0 ds
 |[.tup ds]=>sortR0 ds
 |_=>.bad
theorem sortRD_ok {t:Bool}{Hf H:Hp}{p:Addr}{zs:List V}{ds:List D}{Q:VK}(e:Same Hf H)(hp:SqG t X.K Hf p zs)(hr:Reps X.K Hf ds zs)(q:Po X.K E (rV X.K) Hf H (sortRD ds) Q) :
  ∃(t:Bool) (p':Addr) (zs:List V) (ys:List (List V)) (q:Array Nat),[V.ref p]=[V.ref p']/\SqG t X.K H p' zs/\RowsT H zs ys/\2<=zs.length/\zs.length<64/\(ys.all headS||ys.all headI)=true /\
  runO (askR ys) (kas_sort zs.length)=some q/\∀l,H l=none->Q (.ref l) (upd H l (.lst (q.toList.map fun i=>zs.getD i .non))):=by
 unfold sortRD at q
 have hl:=hr.length
 split at q
 ·rename_i ys ey
  split at q
  ·rename_i hc
   split at q
   ·rename_i a ea
    exact⟨t,p,zs,ys,a,rfl,sqg_same e hp,(rowsD_reps ey hr).mono e,by lia,by lia,hc.2.2,by rw[<-hl];exact ea,fun l hl=>q _ _ _ (Gr.alloc e hl _) (Gr.lst e hl (reps_pick hr _))⟩
   ·exact q.elim
  ·exact q.elim
 ·exact q.elim
theorem sortR0_ok {t:Bool}{Hf H:Hp}{p:Addr}{zs:List V}{ds:List D}{Q:VK}(e:Same Hf H)(hp:SqG t X.K Hf p zs)(hr:Reps X.K Hf ds zs)(q:Po X.K E (rV X.K) Hf H (sortR0 ds) Q) :
  (∃(t:Bool) (p':Addr) (zs:List V),[V.ref p]=[V.ref p']/\SqG t X.K H p' zs/\zs.length<2/\∀l,H l=none->Q (.ref l) (upd H l (.lst zs))) \/
  ∃(t:Bool) (p':Addr) (zs:List V) (ys:List (List V)) (q:Array Nat),[V.ref p]=[V.ref p']/\SqG t X.K H p' zs/\RowsT H zs ys/\2<=zs.length/\zs.length<64/\(ys.all headS||ys.all headI)=true /\
  runO (askR ys) (kas_sort zs.length)=some q/\∀l,H l=none->Q (.ref l) (upd H l (.lst (q.toList.map fun i=>zs.getD i .non))):=by
 unfold sortR0 at q
 split at q
 ·rename_i h
  have hl:=hr.length
  exact .inl ⟨t,p,zs,rfl,sqg_same e hp,by lia,fun l hl=>q _ _ _ (Gr.alloc e hl _) (Gr.lst e hl hr)⟩
 ·exact .inr (sortRD_ok e hp hr q)
theorem cd_sortR:CallD X E (.builtin "sorted") bSortR:=by
 refine⟨_,call_sortR0,fun Hf H xs ds Q e r q=>?_⟩
 unfold bSortR at q
 split at q
 ·obtain⟨x,rfl,h⟩:=reps1 r
  obtain⟨p,ys,rfl,hp,hr⟩:=rep_lst.mp h
  exact sortR0_ok (t:=false) e hp hr q
 ·obtain⟨x,rfl,h⟩:=reps1 r
  obtain⟨p,ys,rfl,hp,hr⟩:=Z2 h
  exact sortR0_ok (t:=true) e hp hr q
 ·exact q.elim
def flatA:D->Option V
 |.non=>some .non
 |.bl b=>some (.bl b)
 |.int i=>some (.int i)
 |.str x=>some (.str x)
 |_=>none
theorem flatA_rep {K:PySem.W.Frag}{H:Hp}{d:D}{v x:V}(e:flatA d=some v)(r:Rep K H d x):x=v/\flatV v=true:=by
 unfold flatA at e
 split at e
 ·cases e;exact⟨rep_non.mp r,rfl⟩
 ·cases e;exact⟨rep_bl.mp r,rfl⟩
 ·cases e;exact⟨rep_int.mp r,rfl⟩
 ·cases e;exact⟨rep_str.mp r,rfl⟩
 ·cases e
def gInC (cs:List V)(neg:Bool)(d:D):M D:=match flatA d with
 |some x=>.ok (.bl (if neg then !inV x cs else inV x cs))
 |none=>.bad
def tupB (K:PySem.W.Frag)(a:Addr)(cs:List V):Bool:=match K.lookup a with
 |some o=>(match o.cls,o.data with
  |.type n,.seq its _=>decide (n = "tuple")&&decide (its.size<=1000)&&decide (its.toList.map absV=cs.map some)&&cs.all flatV
  |_,_=>false)
 |none=>false
theorem vals_of_abs:∀{cs:List V} {us:List Value},us.map absV=cs.map some->cs.all flatV=true->Vals cs us
 |[],[],_,_=>.nil
 |c::cs,u::us,e,f=>by
  rw[List.map_cons,List.map_cons] at e
  injection e with e1 e2
  rw[List.all_cons,Bool.and_eq_true] at f
  refine .cons ?_ (vals_of_abs e2 f.2)
  cases u<;>simp[absV] at e1<;>subst e1<;>first|exact rfl|exact⟨_,rfl⟩
 |[],_::_,e,_=>by simp at e
 |_::_,[],e,_=>by simp at e
theorem tupB_sq {K:PySem.W.Frag}{H:Hp}{a:Addr}{cs:List V}(h:tupB K a cs=true):SqT K H a cs/\cs.all flatV=true:=by
 unfold tupB at h
 split at h
 ·rename_i o eo
  split at h
  ·rename_i n its m e1 e2
   rw[Bool.and_eq_true,Bool.and_eq_true,Bool.and_eq_true] at h
   obtain⟨⟨⟨h1,h2⟩,h3⟩,h4⟩:=h
   have h1:=of_decide_eq_true h1
   subst h1
   refine⟨.inr ⟨o,its,m,eo,e1,e2,?_,vals_of_abs (of_decide_eq_true h3) h4⟩,h4⟩
   have:=of_decide_eq_true h2
   rw[sizeLine_eq]
   lia
  ·cases h
 ·cases h
variable {e:Expr} {x:Str} {pos p2:Pos} {a:Addr} {cs:List V} {f:DSt->M D}
def tLPut (to ti tv:TE):TS:=fun D σ H=>tv σ H fun v H1=>to σ H1 fun o H2=>ti σ H2 fun i H3=>rSetL o i v H3 fun H4=>D.nx σ H4
theorem ps_lput {o i value:Expr}{to ti tv:TE}{pos':Pos}(ho:PE X o to)(hi:PE X i ti)(hv:PE X value tv)(hs:swapsWith value (some (.Subscript o i pos')) pos.line X.env=pure false):PS X (.Assign [.Subscript o i pos'] value pos) (tLPut to ti tv):=by
 intro pins s σ H D I h
 refine wpAny_Assign_Subscript (thn (hv pins s σ H _ I h) fun r s1 ⟨v,H1,I1,rv,q1⟩=>thn (ho pins s1 σ H1 _ I1 q1) fun u s2 ⟨x,H2,I2,rx,q2⟩=>thn (hi pins s2 σ H2 _ I2 q2) fun iv s3 ⟨y,H3,I3,ry,q3⟩=>?_) hs
 exact thn (set_list pins s3 σ H3 x y v u iv r _ I3 rx ry rv q3) fun _ s4 ⟨H4,I4,q4⟩=>⟨σ,H4,I4,q4⟩
theorem Reps.set {K:PySem.W.Frag}{H:Hp}{d:D}{x:V}(h:Rep K H d x):∀{ds:List D} {xs:List V} (j:Nat),Reps K H ds xs->Reps K H (ds.set j d) (xs.set j x)
 |[],_,_,r=>by rw[reps_nil.mp r];exact Reps.nil
 |_::ds,_,0,r=>by
  obtain⟨y,t,rfl,_,q⟩:=reps_cons.mp r
  exact Reps.cons h q
 |_::ds,_,j+1,r=>by
  obtain⟨y,t,rfl,z,q⟩:=reps_cons.mp r
  exact Reps.cons z (Reps.set h j q)
def sLPut (i:Nat)(fk fv:DSt->M D)(sd:DSt):M O:=match sd[i]? with
 |some (some (.ow ds))=>(fv sd).bind fun v=>(fk sd).bind fun k=>match k with
  |.int n=>(match ixN ds.length n with
   |some j=>.ok (.nx (sd.set i (some (.ow (ds.set j v)))))
   |none=>.bad)
  |_=>.bad
 |_=>.bad
theorem psd_lput (i:Nat){key value:Expr}{p1 pos':Pos}{fk fv:DSt->M D}(hk:PEd X E key fk)(hv:PEd X E value fv)(hi:X.N[i]?=some x:=by rfl)(hvis:Vis X.env.scope x:=by first|exact Or.inl rfl|exact Or.inr (Or.inl rfl)|exact Or.inr (Or.inr rfl))
  (hd:(x==("__debug__" : Str))=false:=by decide) (hcd:(x==("__classdict__" : Str))=false:=by decide) (hs:swapsWith value (some (.Subscript (.Name x p1) key pos')) pos.line X.env=pure false:=by rfl) :
  PSd X E (.Assign [.Subscript (.Name x p1) key pos'] value pos) (sLPut i fk fv):=by
 obtain⟨tk,pk,qk⟩:=hk
 obtain⟨tv,pv,qv⟩:=hv
 refine⟨_,ps_lput (Z8 hi hvis hd hcd) pk pv hs,fun H0 B Hf sd σ H D sr h=>?_⟩
 unfold sLPut at h
 split at h
 ·rename_i ds et
  obtain⟨p,z1,z2,z3,xs0,z4,z5⟩:=sr.ow i _ et rfl
  refine qv H0 B Hf sd σ H _ sr (PoS.bind sr h fun dv v Hf1 H1 _ g1 sr1 rv h1=>?_)
  refine⟨_,z1,?_⟩
  refine qk H0 B Hf1 sd σ H1 _ sr1 (PoS.bind sr1 h1 fun dk y Hf2 H2 _ g2 sr2 ry h2=>?_)
  obtain⟨p',z1',_,_,xs,w4,w5⟩:=sr2.ow i _ et rfl
  rw[z1] at z1'
  cases z1'
  split at h2
  ·rename_i n _
   split at h2
   ·rename_i j ej
    have hl:=w5.length
    exact⟨p,xs,n,j,rfl,rep_int.mp ry,w4,by rw[<-hl];exact ej,h2 _ Hf2 _ (Same.refl _) (sr2.change et rfl z1 rfl ⟨_,Zn,Reps.set (Rep.mono g2.fz rv) j w5⟩)⟩
   ·exact h2.elim
  ·exact h2.elim
 ·exact h.elim
theorem po_asB {f:DSt->M D}{sd:DSt}{Hf H:Hp}{Q:Bool->Hp->Prop}(h:Po X.K E rQ Hf H (DL.tB f sd) Q):Po X.K E (rV X.K) Hf H (f sd) (fun v H'=>∃k,v=.bl k/\Q k H') :=
 Po.bind h fun d v Hf1 H1 _ g1 rv h1=>by
  unfold asB at h1
  split at h1
  ·exact⟨_,rep_bl.mp rv,Po.ret (R:=rQ) g1.sub h1 rfl⟩
  ·exact h1.elim
theorem ptd_notinC (hm:X.mg x=some (.ref a))(ht:tupB X.K a cs=true)(he:PEd X E e f)(hg:Gl X x:=by rfl) (hd:(x==("__debug__" : Str))=false:=by decide):PTd X E (.Compare e [.NotIn] [.Name x p2] pos) (DL.tB (eUn (gInC cs true) f)):=by
 obtain⟨t,p,q⟩:=he
 refine⟨_,pt_cmpR op_notIn_seq p (pe_glob (v:=.ref a) hg hm rfl hd) (by with_unfolding_all rfl),fun H0 B Hf sd σ H Q sr h=>?_⟩
 refine q H0 B Hf sd σ H _ sr (Po.bind (po_asB h) fun d v Hf1 H1 _ g1 rv h1=>?_)
 unfold gInC at h1
 split at h1
 ·rename_i y ey
  obtain⟨rfl,fy⟩:=flatA_rep ey rv
  obtain⟨hs,fc⟩:=tupB_sq (H:=H1) ht
  exact⟨a,cs,rfl,.inr hs,fy,fc,Po.ret g1.sub h1 (rep_bl.mpr rfl)⟩
 ·exact h1.elim
theorem ptd_din (i:Nat){key:Expr}{p1:Pos}{fk:DSt->M D}(hu:X.A.units+64<cLine)(hk:PEd X E key fk)(hi:X.N[i]?=some x:=by rfl)(hvis:Vis X.env.scope x:=by first|exact Or.inl rfl|exact Or.inr (Or.inl rfl)|exact Or.inr (Or.inr rfl))
  (hd:(x==("__debug__" : Str))=false:=by decide) (hcd:(x==("__classdict__" : Str))=false:=by decide):PTd X E (.Compare key [.In] [.Name x p1] pos) (DL.tB (eDIn i fk)):=by
 obtain⟨tk,pk,qk⟩:=hk
 refine⟨_,pt_cmp (pc_din (by lia) pk (Z8 hi hvis hd hcd)) (by rfl),fun H0 B Hf sd σ H Q sr h=>?_⟩
 have h:=po_asB h
 unfold eDIn at h
 split at h
 case isFalse=>exact h.elim
 case isTrue hdc=>exact din_core (g:=id) qk sr hdc h
end
def sXp (f:DSt->M D)(sd:DSt):M O:=(f sd).bind fun _=>.ok (.nx sd)
theorem psd_xp {X:Cx}{E:XK}{pos:Pos}{e:Expr}{f:DSt->M D}(h:PEd X E e f)(hs:swapsWith e none pos.line X.env=pure false:=by rfl):PSd X E (.Expr e pos) (sXp f):=by
 obtain⟨t,p,q⟩:=h
 refine⟨_,ps_expr p hs,fun H0 B Hf sd σ H D sr h=>?_⟩
 refine q H0 B Hf sd σ H _ sr (PoS.bind sr h fun d v Hf1 H1 _ g1 sr1 rv h1=>?_)
 exact h1 _ Hf1 H1 (Same.refl _) sr1
end DL
set_option autoImplicit false
set_option autoImplicit false
set_option autoImplicit false
set_option autoImplicit false
set_option autoImplicit false
set_option autoImplicit false
set_option autoImplicit false
set_option autoImplicit false
namespace DL
open PySem PySem.Spec PyProof.Rows L2
def filD (gt:D->DSt->M DSt)(fc:DSt->M Bool)(fe:DSt->M D)(sd0:DSt):List D->M (List D)
 |[]=>.ok []
 |d::ds=>match gt d sd0 with
  |.ok sd1=>match fc sd1 with
   |.ok true=>(match fe sd1 with
    |.ok e=>match filD gt fc fe sd0 ds with
     |.ok es=>.ok (e::es)
     |_=>.bad
    |_=>.bad)
   |.ok false=>filD gt fc fe sd0 ds
   |_=>.bad
  |_=>.bad
theorem codeAny_comp_if {prog:Program}{w:World}{A:Around}{R:Result->Shared->Prop}{s:Shared}{elt target iter cnd:Expr}{scope:Scope}{pos:Pos}{it acc:Value}{env:Env}(I:Nat->Shared->Prop)
  (turn:∀n s,I n s->wpAny (model prog w) A (pyNext it) (fun r s₁=>match r with
   |none=>R (.ok .next) s₁
   |some v=>wpAny (model prog w) A (letOwnedTupleGo target it v) (fun _ s₂=>wpAny (model prog w) A (assign target env v) (fun _ s₃=>wpAny (model prog w) A (isTrue cnd env (eval cnd env)) (fun k s₃'=>if k=true then
     wpAny (model prog w) A (eval elt env) (fun x s₄=>wpAny (model prog w) A (call (.builtin "list.append") [acc,x]) (fun _ s₅=>∃m,m<n/\I m s₅) (fun _ _=>False) s₄) (fun _ _=>False) s₃' else ∃m,m<n/\I m s₃') (fun _ _=>False) s₃) (fun _ _=>False) s₂) (fun _ _=>False) s₁) (fun _ _=>False) s)
  (n:Nat) (h:I n s) :
  codeAny (model prog w) A (.compLoop (.ListComp elt [⟨target,iter,[cnd],0⟩] scope pos) 0 it acc env) R s:=by
 refine codeAny_loop rfl I (fun n s hI=>?_) n h
 change wpAny _ A ((compTurn (.ListComp elt [⟨target,iter,[cnd],0⟩] scope pos) 0 it acc env).onRaise (fun x=>do noteFrame x env;theTreesLotGoes x)) _ _ s
 refine wpAny_noted ?_
 rw[compTurn_list]
 refine wpAny_bind (wpAny_standAt (wpAny_bind (wpAny_mono (turn n s hI) (fun r s₁ h₁=>?_) fun _ _ h'=>h'.elim)))
 cases r with
 |none=>exact wpAny_pure h₁
 |some v =>
  refine wpAny_bind (wpAny_mono h₁ (fun _ s₂ h₂=>wpAny_bind (wpAny_mono h₂ (fun _ s₃ h₃=>?_) fun _ _ h'=>h'.elim)) fun _ _ h'=>h'.elim)
  refine wpAny_bind (wpAny_tests_one (wpAny_mono h₃ (fun k s₄ h₄=>?_) fun _ _ h'=>h'.elim))
  cases k with
  |true =>
   rw[if_pos rfl] at h₄
   simp only[if_true]
   exact wpAny_bind (wpAny_bind (wpAny_mono h₄ (fun x s₄ h₄=>wpAny_bind (wpAny_mono h₄ (fun _ s₅ h₅=>wpAny_pure (wpAny_pure ⟨rfl,h₅⟩)) fun _ _ h'=>h'.elim)) fun _ _ h'=>h'.elim))
  |false =>
   rw[if_neg (by decide)] at h₄
   simp only[Bool.false_eq_true,if_false]
   exact wpAny_pure ⟨rfl,h₄⟩
end DL
namespace DL
open PySem PySem.Spec PySem.Calls PySem.Builtin PySem.Builtin.ObjectAttr PyProof.Rows L2 PySem.W
section
variable {X:Cx} {E:XK} {pos p p2:Pos} {a:Expr}
theorem ld_fn {pins:List (Addr×Obj)}{s:Shared}{σ:L2.St}{H:Hp}{x:Str}{i:Nat}{f:Addr}{Q:Value->Shared->Prop}(I:Inv X pins σ H s)(hN:X.N[i]?=some x)(hv:Vis X.env.scope x)(h0:σ[i]?=some (some (.ref f)))(h:∀s1,Inv X pins σ H s1->Q (.ref f) s1) (hd:(x==("__debug__" : Str))=false:=by decide) (hcd:(x==("__classdict__" : Str))=false:=by decide):wpAny (model X.prog X.w) X.A (eval (.Name x pos) X.env) Q X.xe s :=
 wpAny_mono (Z8 (pos:=pos) hN hv hd hcd pins s σ H (fun v H'=>v=.ref f/\H'=H) I ⟨_,h0,rfl,rfl⟩) (fun u s1 q=>by
  obtain⟨v,H1,I1,r,e1,e2⟩:=q
  subst e1;subst e2
  cases r
  exact h s1 I1) fun _ _ z=>z
theorem pe_callL {CX:CXT}{k i:Nat}{f:Addr}{fd:FuncData}{ps:List Str}{sp:Sp}{dvs:List V}{ds:List Value}{x:Str}{es:List Expr}{t:TA}{e:Expr}(F:FnOk X.prog X.w X.K X.mg X.base CX k f fd ps sp)(hr:Room k X.A)(hN:X.N[i]?=some x)(hv:Vis X.env.scope x)(hk:keepIn X.K (.ref f)=true)(hb:Binds X.K fd ps ds)(hd:Vals dvs ds)(hx:Xl CX X E)(ha:PA X (e::es) t) (hdb:(x==("__debug__" : Str))=false:=by decide) (hcd:(x==("__classdict__" : Str))=false:=by decide) (he:starEach (e::es) X.env=(false,eval e X.env)::starEach es X.env:=by rfl) (hpl:(backTo pos (starEach es X.env)).any (·.1)=false:=by rfl) :
  PE X (.Call (.Name x p) (e::es) [] pos) (fun σ H Q=>σ[i]?=some (some (.ref f))/\tCall sp dvs E t σ H Q):=by
 intro pins s σ H Q I h
 obtain⟨h0,h⟩:=h
 refine wpAny_Call_Name_kw (ld_fn I hN hv h0 (fun s0 I0=>?_) hdb hcd)
 refine PySem.W.callWith_K (h₀:=X.base) I0.ok.mod.kin hk (thn (ha pos pins s0 σ H _ I0 h) fun us s1 ⟨vs,H1,I1,r,q⟩=>⟨I1.kIn,?_⟩) he hpl
 exact run_fn F hr hb hd hx I1 r q
def Xg (i:Nat)(nm:Str)(sd:DSt):Bool:=match sd[i]? with
 |some (some (.fn y))=>decide (y=nm)
 |_=>false
theorem isFnS_ok {K:Frag}{H0 Hf H:Hp}{B:Addr->Prop}{sd:DSt}{σ:L2.St}{i:Nat}{nm:Str}{f:Addr}(sr:SR K H0 B Hf sd σ H)(h:Xg i nm sd=true)(hn:nsIn K mainGlobals nm=some (some (.ref f))):σ[i]?=some (some (.ref f)):=by
 unfold Xg at h
 split at h
 ·rename_i y ei
  have e:=of_decide_eq_true h
  subst e
  obtain⟨v,e1,b,rfl,e2⟩:=sr.imS i _ ei rfl
  rw[hn] at e2
  cases e2
  exact e1
 ·cases h
end
section
variable {X:Cx} {E:XK} {pos:Pos}
def Y9 (i:Nat)(nm:Str)(F:List D->M S)(fs:DSt->M (List D))(sd:DSt):M D:=if Xg i nm sd then Zt F fs sd else .bad
theorem pd_callLN {k i:Nat}{f:Addr}{fd:FuncData}{ps:List Str}{F:List D->M S}{x nm:Str}{a:Expr}{es:List Expr}{fs:DSt->M (List D)}{p:Pos}(G:FnOk X.prog X.w X.K X.mg X.base CX0 k f fd ps (spN X.K F))(hr:Room k X.A)(hn:nsIn X.K mainGlobals nm=some (some (.ref f)))(hk:keepIn X.K (.ref f)=true)(hb:Binds X.K fd ps [])(ha:PAd X E (a::es) fs)(hN:X.N[i]?=some x:=by rfl)(hv:Vis X.env.scope x:=by first|exact Or.inl rfl|exact Or.inr (Or.inl rfl)|exact Or.inr (Or.inr rfl)) (hdb:(x==("__debug__" : Str))=false:=by decide) (hcd:(x==("__classdict__" : Str))=false:=by decide) (he:starEach (a::es) X.env=(false,eval a X.env)::starEach es X.env:=by rfl) (hpl:(backTo pos (starEach es X.env)).any (·.1)=false:=by rfl) :
  PEd X E (.Call (.Name x p) (a::es) [] pos) (Y9 i nm F fs):=by
 obtain⟨t,pt,qt⟩:=ha
 refine⟨_,pe_callL (dvs:=[]) (E:=E0) G hr hN hv hk hb .nil pass0 pt hdb hcd he hpl,fun H0 B Hf sd σ H Q sr h=>?_⟩
 unfold Y9 at h
 split at h
 case isFalse=>exact h.elim
 rename_i hi
 refine⟨isFnS_ok sr hi hn,qt H0 B Hf sd σ H _ sr (Po.bind h fun ds vs Hf1 H1 _ g1 rs h1=>?_)⟩
 split at h1
 ·rename_i s e
  refine⟨Hf1,ds,s,g1.sub,by rw[List.append_nil];exact rs,e,fun v Hf' H' g2 rv=>?_⟩
  cases s with
  |im d=>exact h1 v Hf' H' g2 rv
  |ow es =>
   obtain⟨p,rfl,e1,e2,xs,e3,e4⟩:=rv
   refine h1 _ (upd Hf' p (.lst xs)) H' ⟨g2.fz.trans (Z1 e2 _),fun b u q=>?_,g2.all,fun a h1 h2=>?_⟩ (rep_lst.mpr ⟨p,xs,rfl,SqL.of Zn,e4.mono (Z1 e2 _)⟩)
   ·by_cases hb:b=p
    ·subst hb;rw[Zn] at q;rw[e3];exact q
    ·rw[Zj hb] at q;exact g2.sub b u q
   ·have:a≠p:=fun z=>h1.nn (z▸e1)
    rw[Zj this];exact g2.ban a h1 h2
  |od kvs=>exact h1.elim
  |dk kvs=>exact h1.elim
  |xc x=>exact h1.elim
  |fn x=>exact h1.elim
  |ob a c r=>exact h1.elim
  |fl a g q=>exact h1.elim
 ·exact h1.elim
end
end DL
namespace DL
open PySem PySem.Spec PyProof.Rows L2 HT
def eOIx (i:Nat)(fk:DSt->M D)(sd:DSt):M D:=match sd[i]? with
 |some (some (.ow ds))=>(fk sd).bind fun k=>(match k with
  |.int j=>(match atI ds j with
   |some d=>.ok d
   |none=>.bad)
  |_=>.bad)
 |_=>.bad
theorem pd_oix (i:Nat){X:Cx}{E:XK}{x:Str}{key:Expr}{p1 pos:Pos}{fk:DSt->M D}(hk:PEd X E key fk)(hs:PlainIx key)(hi:X.N[i]?=some x:=by rfl)(hvis:Vis X.env.scope x:=by first|exact Or.inl rfl|exact Or.inr (Or.inl rfl)|exact Or.inr (Or.inr rfl))
  (hd:(x==("__debug__" : Str))=false:=by decide) (hcd:(x==("__classdict__" : Str))=false:=by decide):PEd X E (.Subscript (.Name x p1) key pos) (eOIx i fk):=by
 obtain⟨tk,pk,qk⟩:=hk
 refine⟨_,pe_ix ix_seq (Z8 hi hvis hd hcd) pk hs,fun H0 B Hf sd σ H Q sr h=>?_⟩
 unfold eOIx at h
 split at h
 case h_2=>exact h.elim
 rename_i ds ei
 obtain⟨p,z1,_,_,_⟩:=sr.ow i _ ei rfl
 refine⟨_,z1,qk H0 B Hf sd σ H _ sr (Po.bind h fun k y Hf1 H1 _ g1 ry h1=>?_)⟩
 split at h1
 ·rename_i j _
  split at h1
  ·rename_i d ed
   obtain⟨p',z1',_,_,xs,z4,z5⟩:=(sr.gr g1).ow i _ ei rfl
   rw[z1] at z1'
   cases z1'
   obtain⟨v,e1,e2⟩:=atI_rep z5 ed
   exact .inl ⟨p,xs,j,v,rfl,rep_int.mp ry,SqL.of z4,e1,Po.ret (R:=rV X.K) g1.sub h1 e2⟩
  ·exact h1.elim
 ·exact h1.elim
end DL
namespace DL
open PySem PySem.Spec PyProof.Rows L2
def rmA (H:Hp)(a:Addr):Hp:=fun b=>if b=a then none else H b
theorem rmA_same (H:Hp)(a:Addr):Same (rmA H a) H:=fun b u q=>by
 unfold rmA at q
 split at q
 ·cases q
 ·exact q
theorem rmA_at (H:Hp)(a:Addr):rmA H a a=none:=if_pos rfl
theorem rmA_ne {H:Hp}{a b:Addr}(h:b≠a):rmA H a b=H b:=if_neg h
theorem lv_ins {H:Hp}{a C dx:Addr}{gs:List (Str×V)}(h:H a=some (.ins C dx gs)):Lv H a:=⟨_,h,fun _ q=>by cases q⟩
structure Dm (K:PySem.W.Frag) (mg:Str->Option Value) (x:Str) (st:Stmt):Prop where
 ex:∃f fd,Fun K x x st f fd/\mg x=some (.ref f)
structure Mm (K:PySem.W.Frag) (C:Addr) (m q:Str) (st:Stmt):Prop where
 ex:∃f fd,Meth K C m f/\Fun K m q st f fd
structure Cl (P:Program) (w:World) (K:PySem.W.Frag) (mg:Str->Option Value) (base:Heap) (n:Nat) (x:Str) (ps:List Str) (F:List D->M S):Prop where
 ex:∃f fd,FnOk P w K mg base CX0 n f fd ps (spN K F)/\Binds K fd ps []/\PySem.W.keepIn K (.ref f)=true/\mg x=some (.ref f)
section
variable {P:Program} {w:World} {K:PySem.W.Frag} {mg:Str->Option Value} {base:Heap}
theorem dm_mk {h:Heap}{x:Str}{st:Stmt}{f:Addr}{oc:Value}{od an:Option Addr}{sl:Array (Option Value)}{kV dc pm cd ct:Value}(X:K.In h)(G:h.Ns mainGlobals mg)(a:PySem.W.nsIn K mainGlobals x=some (some (.ref f)))(l:K.lookup f=some ⟨oc,od,.func (PySem.W.fnOf x x (Q8 st) (Z7 st) (Zg st) .none kV dc pm an cd ct),sl⟩)(c:PySem.W.codeIn K cd x=true)(k:PySem.W.keepIn K (.ref f)=true):Dm K mg x st:=⟨_,_,fun_mk l c k,PySem.W.mg_of X G a⟩
theorem mm_mk {C:Addr}{m q:Str}{st:Stmt}{f:Addr}{oc:Value}{od an:Option Addr}{sl:Array (Option Value)}{kV dc pm cd ct:Value}(a:PySem.W.findIn K (.ref C) m=some (some (.ref f)))(n:PySem.W.isFn K (.ref f)=true)(l:K.lookup f=some ⟨oc,od,.func (PySem.W.fnOf m q (Q8 st) (Z7 st) (Zg st) .none kV dc pm an cd ct),sl⟩)(c:PySem.W.codeIn K cd q=true)(k:PySem.W.keepIn K (.ref f)=true):Mm K C m q st:=⟨_,_,⟨a,n,k⟩,fun_mk l c k⟩
theorem Dm.cl {x:Str}{st:Stmt}{n:Nat}{ps:List Str}{F:List D->M S}(d:Dm K mg x st)(hb:∀(kV doc pm:Value) (an:Option Addr) (cdv ct:Value) (us:List Value),us.length=ps.length->bindArgs (PySem.W.fnOf x x (Q8 st) (Z7 st) (Zg st) .none kV doc pm an cdv ct) ⟨us,[]⟩=pure (ps.zip us))(h:∀f fd,Fun K x x st f fd->FnOk P w K mg base CX0 n f fd ps (spN K F)):Cl P w K mg base n x ps F :=
 let ⟨f,fd,F,m⟩:=d.ex
 ⟨f,fd,h f fd F,F.binds hb,F.kp,m⟩
end
theorem Zp {X:Cx}{E:XK}{pos:Pos}{k:Nat}{ps:List Str}{F:List D->M S}{x:Str}{p:Pos}{a:Expr}{es:List Expr}{fs:DSt->M (List D)}(c:Cl X.prog X.w X.K X.mg X.base k x ps F)(hr:Room k X.A)(ha:PAd X E (a::es) fs)(hg:Gl X x:=by rfl) (hdb:(x==("__debug__" : Str))=false:=by decide) (he:starEach (a::es) X.env=(false,eval a X.env)::starEach es X.env:=by rfl) (hpl:(backTo pos (starEach es X.env)).any (·.1)=false:=by rfl) :
  PEd X E (.Call (.Name x p) (a::es) [] pos) (Zt F fs) :=
 let ⟨_,_,G,b,k,m⟩:=c.ex
 pd_call G hr m k b ha hg hdb he hpl
end DL
namespace DL
open PySem PySem.Spec PyProof.Rows L2 PySem.W
section
variable {X:Cx} {E:XK} {pos:Pos}
def idxD (dx:D)(ds:List D):Nat:=ds.findIdx fun d=>D.eq d dx
def rIdx (K:PySem.W.Frag):V->List V->Hp->VK->Prop:=fun x vs H Q=>∃(dx:D) (ds:List D) (y:V),vs=[y]/\Rep K H dx y/\Rep K H (.lst ds) x/\D.deps ds<=60/\inD dx ds=true/\ds.length<=1000000/\Q (.int (idxD dx ds:Nat)) H
theorem idx_reps {Xc:Cx}{pins:List (Addr×Obj)}{σ:L2.St}{H:Hp}{s:Shared}(I:Inv Xc pins σ H s)(dx:D)(e:Value->Bool)(he:∀d v u,Rep Xc.K H d v->RelV v u->e u=D.eq d dx) :
  ∀{ds:List D} {xs:List V} {us:List Value},Reps Xc.K H ds xs->Vals xs us->us.findIdx e=idxD dx ds
 |[],xs,us,r,v=>by
  rw[reps_nil.mp r] at v
  cases v
  rfl
 |d::ds,xs,us,r,v=>by
  obtain⟨x,xr,rfl,r1,r2⟩:=reps_cons.mp r
  cases v with
  |cons v1 v2 =>
   unfold idxD
   rw[List.findIdx_cons,List.findIdx_cons,he d x _ r1 v1]
   have:=idx_reps I dx e he r2 v2
   unfold idxD at this
   rw[this]
open Classical in
theorem mt_index (hu:X.A.units+64<cLine):MtM X "list.index" (rIdx X.K):=by
 intro pins s σ H x vs v us Q I rx rv h
 obtain⟨dx,ds,y,rfl,hx,hy,hd,hin,hlen,q⟩:=h
 rcases rv with _|⟨ru,_|_⟩
 rename_i u
 let e:Value->Bool:=fun u=>decide (∃d v,Rep X.K H d v/\RelV v u/\D.eq d dx=true)
 have he:∀d v u,Rep X.K H d v->RelV v u->e u=D.eq d dx:=fun d v u r1 r2=>by
  cases z:D.eq d dx with
  |true=>exact decide_eq_true ⟨d,v,r1,r2,z⟩
  |false =>
   refine decide_eq_false ?_
   rintro⟨d',v',a1,a2,a3⟩
   have e1:v'=v:=RelV.inj a2 r2
   subst e1
   rw[rep_inj I d d' _ r1 a1,a3] at z
   cases z
 have each:∀{xs:List V} {us:List Value},Reps X.K H ds xs->Vals xs us->∀w∈us,SeqAt.EqAt X.A.in1 s w u (e w):=fun {xs us} r1 r2 w hw=>by
  obtain⟨d,z,m1,m2,m3⟩:=mem_reps r1 r2 hw
  rw[he d z w m2 m3]
  refine(cmp_at I d dx X.A.in1 z y w u ?_ m2 hx m3 ru).eq
  have:=deps_mem m1
  show X.A.units+1+_<_
  lia
 obtain⟨p,xs,rfl,hp,hr⟩:=rep_lst.mp hy
 cases rx
 obtain⟨its,r,pl,hz⟩:=I.list hp
 have hi:=idx_reps I dx e he hr r
 have ha:its.any e=true:=(any_reps I dx e he hr r).trans hin
 have hj:its.findIdx e<its.length:=List.findIdx_lt_length.mpr (by
  obtain⟨w,w1,w2⟩:=List.any_eq_true.mp ha
  exact⟨w,w1,w2⟩)
 have hl1:=r.length
 have hl2:=hr.length
 obtain⟨⟨cls,dd,data,sl⟩,ho,hc,n,hdt⟩:=id pl.isList
 simp only at hc hdt
 subst hc hdt
 have h63:(2:Int) ^ 63=9223372036854775808:=by decide
 have hs63:((its.findIdx e:Nat):Int)<2 ^ 63 - 1:=by rw[h63];lia
 refine call_meets F.slot_list_index ⟨_,ho,rfl⟩ F.entry_list_index (F.args_list_index_2 _ _) (SeqAt.list_indexAt p its.toArray n dd sl u e (its.findIdx e) (by simpa using hj) hs63 ?_ ?_) ⟨ho,fun w hw=>each hr r w (by simpa using hw),?_⟩
 ·rw[List.getElem_toArray]
  exact List.findIdx_getElem (w:=hj)
 ·intro m hm hlt
  rw[List.getElem_toArray]
  exact List.not_of_lt_findIdx hlt
 ·rw[hi]
  exact⟨.int _,H,I.tok _,⟨_,rfl⟩,q⟩
def eIdx (f g:DSt->M D)(sd:DSt):M D:=(f sd).bind fun l=>match l with
 |.lst ds=>(g sd).bind fun d=>if D.deps ds<=60/\inD d ds=true/\ds.length<=1000000 then .ok (.int (idxD d ds:Nat)) else .bad
 |_=>.bad
theorem pd_idx {o e:Expr}{f g:DSt->M D}{p2 p3:Pos}(hu:X.A.units+64<cLine)(h:PEd X E o f)(h':PEd X E e g)(hse:starEach [e] X.env=(false,eval e X.env)::starEach [] X.env:=by rfl)
  (hbase:attributeBase o "index" X.env (eval o X.env)=eval o X.env:=by rfl)
  (hfew:((backTo p3 (starEach [e] X.env)).all (fun x=>!x.1)&&(backToKw p3 (keywordEach [] X.env)).all (fun x=>x.1.isSome)
   && decide ([e].length+([]:List Keyword).length+(if([]:List Keyword).isEmpty then 0 else 1)<30))=true:=by rfl)
  (hline:(p2.endLine==p3.line)=true:=by rfl) (hplain:(backTo p3 (starEach [] X.env)).any (·.1)=false:=by rfl) :
  PEd X E (.Call (.Attribute o "index" p2) [e] [] p3) (eIdx f g):=by
 obtain⟨t,pt,q⟩:=h
 obtain⟨t',pt',q'⟩:=h'
 refine⟨_,pe_bm PySem.F.plainAttrs_list PySem.F.slot_list_index PySem.F.type_list_index (mt_index hu) pt (Qp pt' Y7 hse) hbase hfew hline hse hplain,fun H0 B Hf sd σ H Q sr h=>?_⟩
 unfold eIdx at h
 refine q H0 B Hf sd σ H _ sr (Po.bind h fun dx x Hf1 H1 _ g1 rx h1=>?_)
 have sr1:=sr.gr g1
 cases dx with
 |lst ds =>
  obtain⟨p,xs,rfl,hp,hr⟩:=rep_lst.mp rx
  refine⟨.inl ⟨rfl,xs,g1.sub.seq hp⟩,?_⟩
  refine q' H0 B Hf1 sd σ H1 _ sr1 (Po.bind h1 fun dy y Hf2 H2 _ g2 ry h2=>?_)
  split at h2
  ·rename_i c
   exact⟨dy,ds,y,rfl,ry.mono g2.sub,(Rep.mono g2.fz rx).mono g2.sub,c.1,c.2.1,c.2.2,Po.ret g2.sub h2 (rep_int.mpr rfl)⟩
  ·exact h2.elim
 |_=>exact h1.elim
end
end DL
namespace DL
open PySem PySem.Spec PySem.Calls PySem.Builtin PySem.Builtin.ObjectAttr PyProof.Rows L2 PySem.W
structure Xm (K:Frag) (mg:Str->Option Value) (c fld q:Str) (st:Stmt):Prop where
 ex:∃(C fI:Addr) (fd:FuncData),nsIn K mainGlobals c=some (some (.ref C))/\mg c=some (.ref C)/\exInit K C fI=true/\keepIn K (.ref C)=true/\isFn K (.ref fI)=true/\Fun K "__init__" q st fI fd/\xclsB K C=true/\xkitB K C=true/\findIn K (.ref C) fld=some none/\hitsB K C C=true
theorem xm_mk {K:Frag}{h:Heap}{mg:Str->Option Value}{c fld q:Str}{st:Stmt}{C fI:Addr}{cdd:ClassData}{oc:Value}{od an:Option Addr}{sl:Array (Option Value)}{kV dc pm cd ct:Value}(X:K.In h)(G:h.Ns mainGlobals mg)(ya:nsIn K mainGlobals c=some (some (.ref C)))(yd:clsIn K C=some cdd) (yi:nsIn K cdd.ns "__init__" = some (some (.ref fI)))
  (yl:K.lookup fI=some ⟨oc,od,.func (fnOf "__init__" q (Q8 st) (Z7 st) (Zg st) .none kV dc pm an cd ct),sl⟩) (yc:codeIn K cd q=true) (yk:keepIn K (.ref fI)=true) (yp:keepIn K (.ref C)=true) (yf:isFn K (.ref fI)=true) (yn:findIn K (.ref C) fld=some none)
  (ye:exInit K C fI=true) (yx:xclsB K C=true) (yt:xkitB K C=true) (yh:hitsB K C C=true):Xm K mg c fld q st:=⟨_,_,_,ya,mg_of X G ya,ye,yp,yf,fun_mk yl yc yk,yx,yt,yn,yh⟩
structure Xr (P:Program) (w:World) (K:Frag) (mg:Str->Option Value) (base:Heap) (c fld:Str):Prop where
 ex:∃(C fI:Addr) (fd:FuncData) (self p:Str),nsIn K mainGlobals c=some (some (.ref C))/\mg c=some (.ref C)/\exInit K C fI=true/\keepIn K (.ref C)=true/\isFn K (.ref fI)=true/\FnOk P w K mg base CX0 1 fI fd [self,p] (spI C fld)/\Binds K fd [self,p] []/\XKnow K c C/\findIn K (.ref C) fld=some none/\hitsB K C C=true
theorem Xm.xr {P:Program}{w:World}{K:Frag}{mg:Str->Option Value}{base:Heap}{c fld q self p:Str}{st:Stmt}{p1 p2 p3 p4:Pos}(m:Xm K mg c fld q st)(sc:FnScope [self,p] [self,p] (Zg st))(hb:Z7 st=[.Assign [.Attribute (.Name self p1) fld p2] (.Name p p3) p4])
  (bi:∀(kV doc pm:Value) (an:Option Addr) (cdv ct:Value) (us:List Value),us.length=[self,p].length->bindArgs (fnOf "__init__" q (Q8 st) (Z7 st) (Zg st) .none kV doc pm an cdv ct) ⟨us,[]⟩=pure ([self,p].zip us))
  (v1:Vis (Zg st) self) (v2:Vis (Zg st) p) (d1:(self==("__debug__" : Str))=false:=by decide) (d2:(p==("__debug__" : Str))=false:=by decide) (d3:(self==("__classdict__" : Str))=false:=by decide) (d4:(p==("__classdict__" : Str))=false:=by decide):Xr P w K mg base c fld:=by
 obtain⟨C,fI,fd,ya,mc,ye,yp,yf,F,yx,yt,yn,yh⟩:=m.ex
 exact⟨C,fI,fd,self,p,ya,mc,ye,yp,yf,fn_init F sc hb (xcls_of yx) yn v1 v2 d1 d2 d3 d4,F.binds bi,know_of ya yx yt,yn,yh⟩
structure ClX (P:Program) (w:World) (K:Frag) (mg:Str->Option Value) (base:Heap) (n:Nat) (x:Str) (ps:List Str) (F:List D->M S):Prop where
 ex:∃f fd,FnOk P w K mg base (CX1 P w) n f fd ps (spX K F)/\Binds K fd ps []/\keepIn K (.ref f)=true/\mg x=some (.ref f)
theorem Dm.clX {P:Program}{w:World}{K:Frag}{mg:Str->Option Value}{base:Heap}{x:Str}{st:Stmt}{n:Nat}{ps:List Str}{F:List D->M S}(d:Dm K mg x st)(hb:∀(kV doc pm:Value) (an:Option Addr) (cdv ct:Value) (us:List Value),us.length=ps.length->bindArgs (fnOf x x (Q8 st) (Z7 st) (Zg st) .none kV doc pm an cdv ct) ⟨us,[]⟩=pure (ps.zip us))(h:∀f fd,Fun K x x st f fd->FnOk P w K mg base (CX1 P w) n f fd ps (spX K F)):ClX P w K mg base n x ps F :=
 let ⟨f,fd,F,m⟩:=d.ex
 ⟨f,fd,h f fd F,F.binds hb,F.kp,m⟩
structure Xh (K:Frag) (mg:Str->Option Value) (c T:Str):Prop where
 ex:∃C Tc:Addr,nsIn K mainGlobals c=some (some (.ref C))/\mg T=some (.ref Tc)/\hitsB K C Tc=true
theorem xh_mk {K:Frag}{h:Heap}{mg:Str->Option Value}{c T:Str}{C Tc:Addr}(X:K.In h)(G:h.Ns mainGlobals mg)(a:nsIn K mainGlobals c=some (some (.ref C)))(b:nsIn K mainGlobals T=some (some (.ref Tc)))(y:hitsB K C Tc=true):Xh K mg c T:=⟨_,_,a,mg_of X G b,y⟩
structure Xi (K:Frag) (mg:Str->Option Value) (anc:Str->List Str) (c T:Str):Prop where
 ex:∃C Tc:Addr,XKnow K c C/\mg T=some (.ref Tc)/\kitOne K (.ref C) (.ref Tc)=some ((anc c).contains T)
theorem xi_mk {K:Frag}{h:Heap}{mg:Str->Option Value}{anc:Str->List Str}{c T:Str}{C Tc:Addr}(X:K.In h)(G:h.Ns mainGlobals mg)(a:nsIn K mainGlobals c=some (some (.ref C)))(b:nsIn K mainGlobals T=some (some (.ref Tc)))(x:xclsB K C=true)(t:xkitB K C=true)(o:kitOne K (.ref C) (.ref Tc)=some ((anc c).contains T)):Xi K mg anc c T:=⟨_,_,know_of a x t,mg_of X G b,o⟩
structure Xj (K:Frag) (anc:Str->List Str) (c T:Str) (ts:String):Prop where
 ex:∃C:Addr,XKnow K c C/\kitOne K (.ref C) (.type ts)=some ((anc c).contains T)
theorem xj_mk {K:Frag}{anc:Str->List Str}{c T:Str}{ts:String}{C:Addr}(a:nsIn K mainGlobals c=some (some (.ref C)))(x:xclsB K C=true)(t:xkitB K C=true)(o:kitOne K (.ref C) (.type ts)=some ((anc c).contains T)):Xj K anc c T ts:=⟨_,know_of a x t,o⟩
end DL
namespace DL
open PySem PySem.Spec PyProof.Rows L2 PySem.W PySem.Builtin PySem.Builtin.Str
theorem vals_num:∀(k:Nat) (ps:List Str),Vals (ps.map V.str) (strValues (numbered k ps))
 |_,[]=>.nil
 |k,p::ps=>.cons ⟨_,rfl⟩ (vals_num (k+1) ps)
section
variable {X:Cx} {E:XK}
def rSplit:V->List V->Hp->VK->Prop:=fun x vs H Q=>∃z y:Str,x=.str z/\vs=[.str y]/\(y.length==0)=false/\z.length<=sizeLine/\(Txt.split z y).length<=sizeLine/\∀l,H l=none->Q (.ref l) (upd H l (.lst ((Txt.split z y).map V.str)))
theorem mt_split:MtM X "str.split" rSplit:=by
 intro pins s σ H x vs v us Q I rx rv h
 obtain⟨z,y,rfl,rfl,hy,hz,hn,q⟩:=h
 rcases rv with _|⟨ru,_|_⟩
 obtain⟨t,rfl⟩:=rx
 obtain⟨u,rfl⟩:=ru
 have fin:∀(ps:List Str) (us:List Value) (k:Nat),ps=Txt.split z y->Vals (ps.map V.str) us->EP X pins σ Q (.ref s.heap.objs.size) { s with toks:=k,heap:=s.heap.push { cls:=.type "list", data:=.seq us.toArray } }:=fun ps us k e r=>by
  subst e
  refine⟨.ref s.heap.objs.size,_,I.laid (t':=k) (o:=.lst ((Txt.split z y).map V.str)) (fun b o e=>Heap.get?_push_of_some _ e) (Nat.le_refl _) ⟨by rw[List.length_map];exact hn,us,0,r,Heap.get?_push_size _ rfl⟩,rfl,q _ (I.hok.fresh (Nat.le_refl _))⟩
 cases h1:(decide (z.length<y.length)||decide (strKind z<strKind y))
 ·cases hf:(occurrences z y 0 z.length (z.length+1)).isEmpty
  ·have es:Txt.split z y=partsBetween z (occurrences z y 0 z.length (z.length+1)) y.length:=(if_neg (ne_true_of_eq_false h1)).trans (if_neg (ne_true_of_eq_false hf))
   refine call_meets F.slot_str_split (typeIs_str _ _ _) F.entry_str_split (F.args_str_split_2 _ _) (meets_str_split_sep z y t u h1 hy hf hz (by rw[<-es];exact hn)) ?_
   refine fin _ _ _ es.symm ?_
   rw[strsFrom_eq]
   exact vals_num _ _
  ·refine call_meets F.slot_str_split (typeIs_str _ _ _) F.entry_str_split (F.args_str_split_2 _ _) (meets_str_split_not_found z y t u h1 hy hf) ?_
   exact fin [z] [.str z t] s.toks ((if_neg (ne_true_of_eq_false h1)).trans (if_pos hf)).symm (.cons ⟨_,rfl⟩ .nil)
 ·refine call_meets F.slot_str_split (typeIs_str _ _ _) F.entry_str_split (F.args_str_split_2 _ _) (meets_str_split_cannot_occur z y t u h1) ?_
  exact fin [z] [.str z t] s.toks (if_pos h1).symm (.cons ⟨_,rfl⟩ .nil)
def partS (z y:Str):List Str:=match occurrences z y 0 z.length 1 with
 |i::_=>[strSub z 0 i,y,strSub z (i+y.length) z.length]
 |[]=>[z,Str.empty,Str.empty]
def rPart:V->List V->Hp->VK->Prop:=fun x vs H Q=>∃z y:Str,x=.str z/\vs=[.str y]/\(y.length==0)=false/\z.length<=sizeLine/\∀l,H l=none->Q (.ref l) (upd H l (.tup ((partS z y).map V.str)))
theorem mt_part:MtM X "str.partition" rPart:=by
 intro pins s σ H x vs v us Q I rx rv h
 obtain⟨z,y,rfl,rfl,hy,hz,q⟩:=h
 rcases rv with _|⟨ru,_|_⟩
 obtain⟨t,rfl⟩:=rx
 obtain⟨u,rfl⟩:=ru
 have fin:∀(ps:List Str) (us:List Value) (k:Nat),ps=partS z y->ps.length=3->Vals (ps.map V.str) us->EP X pins σ Q (.ref s.heap.objs.size) { s with toks:=k,heap:=s.heap.push { cls:=.type "tuple", data:=.seq us.toArray } }:=fun ps us k e l3 r=>by
  subst e
  refine⟨.ref s.heap.objs.size,_,I.laid (t':=k) (o:=.tup ((partS z y).map V.str)) (fun b o e=>Heap.get?_push_of_some _ e) (Nat.le_refl _) ?_,rfl,q _ (I.hok.fresh (Nat.le_refl _))⟩
  exact⟨by rw[List.length_map,l3];decide,us,r,_,Heap.get?_push_size _ rfl,rfl,0,rfl⟩
 refine call_meets F.slot_str_partition (typeIs_str _ _ _) F.entry_str_partition (F.args_str_partition_2 _ _) (meets_str_partition z y t u hy hz) ?_
 unfold partS at fin
 cases ho:occurrences z y 0 z.length 1 with
 |nil =>
  rw[ho] at fin
  exact fin _ _ _ rfl rfl (.cons ⟨_,rfl⟩ (.cons ⟨_,rfl⟩ (.cons ⟨_,rfl⟩ .nil)))
 |cons i r =>
  rw[ho] at fin
  exact fin _ _ _ rfl rfl (.cons ⟨_,rfl⟩ (.cons ⟨_,rfl⟩ (.cons ⟨_,rfl⟩ .nil)))
end
theorem reps_strs {K:PySem.W.Frag}{H:Hp}:∀ps:List Str,Reps K H (ps.map D.str) (ps.map V.str)
 |[]=>Reps.nil
 |_::ps=>Reps.cons (rep_str.mpr rfl) (reps_strs ps)
section
variable {X:Cx} {E:XK} {pos:Pos}
def Xa (f g:DSt->M D)(sd:DSt):M D:=(f sd).bind fun x=>match x with
 |.str z=>(g sd).bind fun d=>(match d with
  |.str y=>if(y.length==0)=false/\z.length<=sizeLine/\(Txt.split z y).length<=sizeLine then .ok (.lst ((Txt.split z y).map D.str)) else .bad
  |_=>.bad)
 |_=>.bad
theorem pd_split {o e:Expr}{f g:DSt->M D}{p2 p3:Pos}(h:PEd X E o f)(h':PEd X E e g)(hse:starEach [e] X.env=(false,eval e X.env)::starEach [] X.env:=by rfl)
  (hbase:attributeBase o "split" X.env (eval o X.env)=eval o X.env:=by rfl)
  (hfew:((backTo p3 (starEach [e] X.env)).all (fun x=>!x.1)&&(backToKw p3 (keywordEach [] X.env)).all (fun x=>x.1.isSome)
   && decide ([e].length+([]:List Keyword).length+(if([]:List Keyword).isEmpty then 0 else 1)<30))=true:=by rfl)
  (hline:(p2.endLine==p3.line)=true:=by rfl) (hplain:(backTo p3 (starEach [] X.env)).any (·.1)=false:=by rfl) :
  PEd X E (.Call (.Attribute o "split" p2) [e] [] p3) (Xa f g):=by
 obtain⟨t,pt,q⟩:=h
 obtain⟨t',pt',q'⟩:=h'
 refine⟨_,pe_bm PySem.F.plainAttrs_str PySem.F.slot_str_split PySem.F.type_str_split mt_split pt (Qp pt' Y7 hse) hbase hfew hline hse hplain,fun H0 B Hf sd σ H Q sr h=>?_⟩
 unfold Xa at h
 refine q H0 B Hf sd σ H _ sr (Po.bind h fun dx x Hf1 H1 _ g1 rx h1=>?_)
 have sr1:=sr.gr g1
 cases dx with
 |str z =>
  rw[rep_str.mp rx]
  refine⟨rfl,?_⟩
  refine q' H0 B Hf1 sd σ H1 _ sr1 (Po.bind h1 fun dy y Hf2 H2 _ g2 ry h2=>?_)
  cases dy with
  |str w =>
   dsimp only at h2
   split at h2
   ·rename_i c
    rw[rep_str.mp ry]
    exact⟨z,w,rfl,rfl,c.1,c.2.1,c.2.2,fun l hl=>h2 _ _ _ (Gr.alloc g2.sub hl _) (Gr.lst g2.sub hl (reps_strs _))⟩
   ·exact h2.elim
  |_=>exact h2.elim
 |_=>exact h1.elim
def ePart (f g:DSt->M D)(sd:DSt):M D:=(f sd).bind fun x=>match x with
 |.str z=>(g sd).bind fun d=>(match d with
  |.str y=>if(y.length==0)=false/\z.length<=sizeLine then .ok (.tup ((partS z y).map D.str)) else .bad
  |_=>.bad)
 |_=>.bad
theorem pd_part {o e:Expr}{f g:DSt->M D}{p2 p3:Pos}(h:PEd X E o f)(h':PEd X E e g)(hse:starEach [e] X.env=(false,eval e X.env)::starEach [] X.env:=by rfl)
  (hbase:attributeBase o "partition" X.env (eval o X.env)=eval o X.env:=by rfl)
  (hfew:((backTo p3 (starEach [e] X.env)).all (fun x=>!x.1)&&(backToKw p3 (keywordEach [] X.env)).all (fun x=>x.1.isSome)
   && decide ([e].length+([]:List Keyword).length+(if([]:List Keyword).isEmpty then 0 else 1)<30))=true:=by rfl)
  (hline:(p2.endLine==p3.line)=true:=by rfl) (hplain:(backTo p3 (starEach [] X.env)).any (·.1)=false:=by rfl) :
  PEd X E (.Call (.Attribute o "partition" p2) [e] [] p3) (ePart f g):=by
 obtain⟨t,pt,q⟩:=h
 obtain⟨t',pt',q'⟩:=h'
 refine⟨_,pe_bm PySem.F.plainAttrs_str PySem.F.slot_str_partition PySem.F.type_str_partition mt_part pt (Qp pt' Y7 hse) hbase hfew hline hse hplain,fun H0 B Hf sd σ H Q sr h=>?_⟩
 unfold ePart at h
 refine q H0 B Hf sd σ H _ sr (Po.bind h fun dx x Hf1 H1 _ g1 rx h1=>?_)
 have sr1:=sr.gr g1
 cases dx with
 |str z =>
  rw[rep_str.mp rx]
  refine⟨rfl,?_⟩
  refine q' H0 B Hf1 sd σ H1 _ sr1 (Po.bind h1 fun dy y Hf2 H2 _ g2 ry h2=>?_)
  cases dy with
  |str w =>
   dsimp only at h2
   split at h2
   ·rename_i c
    rw[rep_str.mp ry]
    exact⟨z,w,rfl,rfl,c.1,c.2,fun l hl=>h2 _ _ _ (Gr.alloc g2.sub hl _) (Gr.tup g2.sub hl (reps_strs _))⟩
   ·exact h2.elim
  |_=>exact h2.elim
 |_=>exact h1.elim
def rSlS:V->Option Int->Option Int->Hp->VK->Prop:=fun x lo hi H Q=>∃z:Str,x=.str z/\z.length<=sizeLine/\Q (.str (Txt.slice z lo hi)) H
theorem part_of {v:Value}{lo:Option Int}(h:IsPart v lo):∃l:Option (Int×Tok),v=partValue l/\lo=l.map (·.1):=by
 cases h with
 |none=>exact⟨none,rfl,rfl⟩
 |int=>exact⟨some (_,_),rfl,rfl⟩
theorem sl_str:SlR X rSlS:=by
 intro pins s σ H x v vl vu lo hi sl Q I rx hs pl pu h
 obtain⟨z,rfl,hz,q⟩:=h
 obtain⟨t,rfl⟩:=rx
 obtain⟨l,rfl,rfl⟩:=part_of pl
 obtain⟨u,rfl,rfl⟩:=part_of pu
 obtain⟨o,h1,h2,h3⟩:=hs
 exact⟨"str", _,F.slot_str_getitem.lookup,typeIs_str _ _ _,wpAny_getItem_str_slice (l:=l) (u:=u) (st:=none) ⟨o,h1,h2,h3⟩ rfl
  (post_val_or_str ⟨Nat.le_trans (Txt.slice_le z _ _) hz,fun t' k=>⟨.str _,H,I.tok _,⟨_,rfl⟩,q⟩⟩)⟩
def gSlX:D->Option Int->Option Int->M D
 |.str z,lo,hi=>if z.length<=sizeLine then .ok (.str (Txt.slice z lo hi)) else .bad
 |_,_,_=>.bad
def eSlX (f:DSt->M D)(lo hi:DSt->M (Option Int))(sd:DSt):M D:=(f sd).bind fun d=>(lo sd).bind fun l=>(hi sd).bind fun h=>gSlX d l h
end
end DL
namespace DL
open PySem PySem.Spec PyProof.Rows L2
section
variable {X:Cx} {E:XK} {pos:Pos}
theorem Yq {e:Expr}{lo hi:Option Expr}{p2:Pos}{f:DSt->M D}{fl fh:DSt->M (Option Int)}(h:PEd X E e f)(hl:POd X E lo fl)(hh:POd X E hi fh):PEd X E (.Subscript e (.Slice lo hi none p2) pos) (eSlX f fl fh):=by
 obtain⟨t,p,q⟩:=h
 obtain⟨tl,pl,ql⟩:=hl
 obtain⟨th,ph,qh⟩:=hh
 refine⟨_,pe_slice sl_str p pl ph,fun H0 B Hf sd σ H Q sr h=>?_⟩
 refine q H0 B Hf sd σ H _ sr (Po.bind h fun d v Hf1 H1 _ g1 rv h1=>?_)
 refine ql H0 B Hf1 sd σ H1 _ (sr.gr g1) (Po.bind h1 fun l l' Hf2 H2 _ g2 el h2=>?_)
 have el:l=l':=el
 subst el
 refine qh H0 B Hf2 sd σ H2 _ ((sr.gr g1).gr g2) (Po.bind h2 fun u u' Hf3 H3 _ g3 eu h3=>?_)
 have eu:u=u':=eu
 subst eu
 cases d with
 |str z =>
  have h3:Po X.K E (rV X.K) Hf3 H3 (if z.length<=sizeLine then M.ok (D.str (Txt.slice z l u)) else .bad) Q:=h3
  have rv:Rep X.K Hf1 (.str z) v:=rv
  rw[rep_str] at rv
  subst rv
  by_cases hz:z.length<=sizeLine
  ·rw[if_pos hz] at h3
   exact⟨z,rfl,hz,Po.ret (R:=rV X.K) g3.sub h3 (rep_str.mpr rfl)⟩
  ·rw[if_neg hz] at h3
   exact h3.elim
 |_=>exact h3.elim
end
def Its (x:Str):It:=⟨fun i _=>i<x.cps.size,fun i H v H'=>H'=H/\∃c,x.cps[i]?=some c/\v=.str ⟨#[c]⟩,fun i _=>x.cps.size<=i⟩
theorem turn_ascii {P:Program}{w:World}{K:PySem.W.Frag}{tg:Expr}(x:Str)(t:Tok)(it:Addr):Turn P w K tg (Its x) [it] it (fun i h=>h.IsStrIter it "str_ascii_iterator" x t i) where
 mem:=by simp
 obj:=fun i h st b hb=>by
  have e:b=it:=by simpa using hb
  subst e
  obtain⟨o,e,c,d⟩:=st
  exact⟨o,e,fun v z=>by rw[d] at z;cases z⟩
 keep:=fun i h h' st k=>let ⟨o,e,r⟩:=st;⟨o,k it (by simp) o e,r⟩
 item:=by
  intro X hP hw hK hc i pins s σ H E I hf st hg
  subst hP hw hK
  have hg:i<x.cps.size:=hg
  have hx:x.cps[i]?=some x.cps[i]:=Array.getElem?_eq_getElem hg
  obtain⟨f0,f1,f2,f3,f4,f5⟩:=hf it (by simp)
  refine wpAny_pyNext_ascii_item st hx fun h' st' sb=>?_
  have I1:Inv X pins σ H { s with heap:=h',toks:=s.toks+1 }:=I.turned (t':=s.toks+1) (fun b o hb e=>(sb.2 b hb).trans e) f0 f1 f3 f4 f5
  obtain⟨o,e,c,d⟩:=id st'
  exact⟨_,rfl,go_of (s:={ s with heap:=h',toks:=s.toks+1 }) e c d (by decide) ⟨.str ⟨#[x.cps[i]]⟩,H,I1,⟨_,rfl⟩,⟨rfl,_,hx,rfl⟩,st',fun b hb=>(hf b hb).1⟩⟩
 done:=by
  intro X hP hw hK hc i pins s σ H E I hf st hg
  subst hP hw hK
  have hg:x.cps.size<=i:=hg
  obtain⟨f0,f1,f2,f3,f4,f5⟩:=hf it (by simp)
  exact wpAny_pyNext_ascii_end (I.ok.hd hc) st (Array.getElem?_eq_none hg) fun h' eb=>⟨rfl,I.turned (t':=s.toks) (fun b o hb e=>eb b o hb e) f0 f1 f3 f4 f5⟩
 self:=fun _ _ _ _ _ st h=>wpAny_pyIter_striter_ascii st h
theorem turn_wide {P:Program}{w:World}{K:PySem.W.Frag}{tg:Expr}(x:Str)(t:Tok)(it:Addr):Turn P w K tg (Its x) [it] it (fun i h=>h.IsStrIter it "str_iterator" x t i) where
 mem:=by simp
 obj:=fun i h st b hb=>by
  have e:b=it:=by simpa using hb
  subst e
  obtain⟨o,e,c,d⟩:=st
  exact⟨o,e,fun v z=>by rw[d] at z;cases z⟩
 keep:=fun i h h' st k=>let ⟨o,e,r⟩:=st;⟨o,k it (by simp) o e,r⟩
 item:=by
  intro X hP hw hK hc i pins s σ H E I hf st hg
  subst hP hw hK
  have hg:i<x.cps.size:=hg
  have hx:x.cps[i]?=some x.cps[i]:=Array.getElem?_eq_getElem hg
  obtain⟨f0,f1,f2,f3,f4,f5⟩:=hf it (by simp)
  refine wpAny_pyNext_wide_item st hx fun h' st' sb=>?_
  have I1:Inv X pins σ H { s with heap:=h',toks:=s.toks+1 }:=I.turned (t':=s.toks+1) (fun b o hb e=>(sb.2 b hb).trans e) f0 f1 f3 f4 f5
  obtain⟨o,e,c,d⟩:=id st'
  exact⟨_,rfl,go_of (s:={ s with heap:=h',toks:=s.toks+1 }) e c d (by decide) ⟨.str ⟨#[x.cps[i]]⟩,H,I1,⟨_,rfl⟩,⟨rfl,_,hx,rfl⟩,st',fun b hb=>(hf b hb).1⟩⟩
 done:=by
  intro X hP hw hK hc i pins s σ H E I hf st hg
  subst hP hw hK
  have hg:x.cps.size<=i:=hg
  obtain⟨f0,f1,f2,f3,f4,f5⟩:=hf it (by simp)
  exact wpAny_pyNext_wide_end (I.ok.hd hc) st (Array.getElem?_eq_none hg) fun h' eb=>⟨rfl,I.turned (t':=s.toks) (fun b o hb e=>eb b o hb e) f0 f1 f3 f4 f5⟩
 self:=fun _ _ _ _ _ st h=>wpAny_pyIter_striter_wide st h
def iStrT (tl:TE):TI:=fun σ H R=>tl σ H fun x H1=>∃z,x=.str z/\R (Its z) H1
section
variable {X:Cx} {E:XK} {tg:Expr}
theorem pi_str {l:Expr}{tl:TE}(hl:PE X l tl):PI X tg l (iStrT tl):=by
 intro pins s σ H R I h
 refine thn (hl pins s σ H _ I h) fun v s1 ⟨x,H1,I1,r1,q1⟩=>?_
 obtain⟨z,rfl,q⟩:=q1
 obtain⟨t,rfl⟩:=r1
 cases ha:z.cps.all (·<128) with
 |true =>
  refine wpAny_pyIter_ascii ha ?_
  refine⟨s1.heap.objs.size,[s1.heap.objs.size],_,_,H1,rfl,I1.kept (t':=s1.toks) fun b o e=>Heap.get?_push_of_some _ e,turn_ascii z t _,⟨_,Heap.get?_push_size _ rfl,rfl,rfl⟩,fun b hb=>?_,q⟩
  have e:b=s1.heap.objs.size:=by simpa using hb
  subst e
  exact I1.fpOk (Nat.le_refl _) (I1.hok.fresh (Nat.le_refl _))
 |false =>
  refine wpAny_pyIter_wide ha ?_
  refine⟨s1.heap.objs.size,[s1.heap.objs.size],_,_,H1,rfl,I1.kept (t':=s1.toks) fun b o e=>Heap.get?_push_of_some _ e,turn_wide z t _,⟨_,Heap.get?_push_size _ rfl,rfl,rfl⟩,fun b hb=>?_,q⟩
  have e:b=s1.heap.objs.size:=by simpa using hb
  subst e
  exact I1.fpOk (Nat.le_refl _) (I1.hok.fresh (Nat.le_refl _))
theorem its_ok {K:PySem.W.Frag}{Hf H:Hp}(z:Str):ItOk K Hf H (z.cps.toList.map fun c=>D.str ⟨#[c]⟩) (Its z):=by
 intro i Hf1 H1 e1 e2
 rw[List.getElem?_map,Array.getElem?_toList]
 cases q:z.cps[i]? with
 |some c =>
  refine⟨(Array.getElem?_eq_some_iff.mp q).1,fun y H2 hy=>?_⟩
  obtain⟨rfl,c',e,rfl⟩:=hy
  rw[q] at e
  cases e
  exact⟨Hf1,Gr.refl e2,rep_str.mpr rfl⟩
 |none=>exact Array.getElem?_eq_none_iff.mp q
def iStr (f:DSt->M D)(sd:DSt):M (List D):=(f sd).bind fun d=>match d with
 |.str z=>.ok (z.cps.toList.map fun c=>D.str ⟨#[c]⟩)
 |_=>.bad
theorem pid_str {l:Expr}{f:DSt->M D}(h:PEd X E l f):PId X E tg l (iStr f):=by
 obtain⟨t,p,q⟩:=h
 refine⟨_,pi_str p,fun H0 B Hf sd σ H R sr h=>?_⟩
 refine q H0 B Hf sd σ H _ sr (Po.bind h fun d v Hf1 H1 _ g1 rv h1=>?_)
 cases d with
 |str z =>
  have rv:Rep X.K Hf1 (.str z) v:=rv
  rw[rep_str] at rv
  exact⟨z,rv,Po.ret (R:=ItOk X.K) g1.sub h1 (its_ok z)⟩
 |_=>exact h1.elim
end
section
variable {X:Cx} {E:XK}
def gInX:D->D->M D
 |.str i,.str j=>.ok (.bl (!(Builtin.Str.occurrences j i 0 j.length 1).isEmpty))
 |_,_=>.bad
theorem od_inX:OpD X E (compareOp .In) gInX:=by
 refine⟨_,op_in_str,fun Hf H x y dx dy Q e rx ry q=>?_⟩
 cases dx with
 |str i =>
  cases dy with
  |str j=>exact⟨i,j,rep_str.mp rx,rep_str.mp ry,Po.ret (R:=rV X.K) e q (rep_bl.mpr rfl)⟩
  |_=>exact q.elim
 |_=>cases dy<;>exact q.elim
end
theorem pd_globS {X:Cx}{E:XK}{x y:Str}{t:Tok}{pos:Pos}(hm:X.mg x=some (.str y t))(hg:Gl X x:=by rfl) (hd:(x==("__debug__" : Str))=false:=by decide):PEd X E (.Name x pos) (eC (.str y)) :=
 ⟨_,pe_glob (v:=.str y) hg hm ⟨t,rfl⟩ hd,fun _ _ _ _ _ _ _ sr h=>Po.ret sr.sub h (rep_str.mpr rfl)⟩
section
variable {X:Cx} {E:XK} {pos:Pos}
theorem call_intX:CallR X (.type "int") (fun xs H Q=>∃x n,xs=[.str x]/\PySem.intText? x=some n/\x.length<=640/\Q (.int n) H):=by
 intro pins s σ H xs us Q I r h
 obtain⟨x,n,rfl,hn,hl,q⟩:=h
 obtain⟨u,rfl,t,rfl⟩:=vals1 r
 exact PySem.W.KIN.call_text hn hl ⟨.int n,H,I.tok _,⟨_,rfl⟩,q⟩
def bIntX:List D->M D
 |[.str x]=>if x.length<=640 then(match PySem.intText? x with
  |some n=>.ok (.int n)
  |none=>.bad) else .bad
 |_=>.bad
theorem cd_intX:CallD X E (.type "int") bIntX:=by
 refine⟨_,call_intX,fun Hf H xs ds Q e r q=>?_⟩
 unfold bIntX at q
 split at q
 ·split at q
  ·rename_i hl
   split at q
   ·rename_i n hn
    obtain⟨x,rfl,h⟩:=reps1 r
    rw[rep_str.mp h]
    exact⟨_,_,rfl,hn,hl,Po.ret e q (rep_int.mpr rfl)⟩
   ·exact q.elim
  ·exact q.elim
 ·exact q.elim
theorem call_strI:CallR X (.type "str") (fun xs H Q=>∃i:Int,xs=[.int i]/\i.natAbs.log2<1920/\Q (.str (Str.ofString (toString i))) H):=by
 intro pins s σ H xs us Q I r h
 obtain⟨i,rfl,hl,q⟩:=h
 obtain⟨u,rfl,t,rfl⟩:=vals1 r
 exact PySem.P.str_of_int hl ⟨.str _,H,I.tok _,⟨_,rfl⟩,q⟩
def bStrI:List D->M D
 |[.int i]=>if i.natAbs.log2<1920 then .ok (.str (Str.ofString (toString i))) else .bad
 |_=>.bad
theorem cd_strI:CallD X E (.type "str") bStrI:=by
 refine⟨_,call_strI,fun Hf H xs ds Q e r q=>?_⟩
 unfold bStrI at q
 split at q
 ·split at q
  ·rename_i hl
   obtain⟨x,rfl,h⟩:=reps1 r
   rw[rep_int.mp h]
   exact⟨_,rfl,hl,Po.ret e q (rep_str.mpr rfl)⟩
  ·exact q.elim
 ·exact q.elim
abbrev TJ:=Str->L2.St->Hp->VK->Prop
def PJ (X:Cx)(es:List Expr)(t:TJ):Prop :=
 ∀(out:Str) (pins:List (Addr×Obj)) (s:Shared) (σ:L2.St) (H:Hp) (Q:VK),Inv X pins σ H s->out.length<=sizeLine->t out σ H Q->wpAny (model X.prog X.w) X.A (joinParts out (evalEach es X.env)) (EP X pins σ Q) X.xe s
def tjNil:TJ:=fun out _ H Q=>Q (.str out) H
def tjCons (t:TE)(r:TJ):TJ:=fun out σ H Q=>t σ H fun v H1=>∃y,v=.str y/\(out++y).length<=sizeLine/\r (out++y) σ H1 Q
theorem pj_nil:PJ X [] tjNil:=fun out pins s σ H Q I hz h=>joinParts_nil ⟨.str out,H,I.tok _,⟨_,rfl⟩,h⟩ hz
theorem pj_cons {e:Expr}{es:List Expr}{t:TE}{r:TJ}(h:PE X e t)(hr:PJ X es r)(hs:evalEach (e::es) X.env=eval e X.env::evalEach es X.env:=by rfl):PJ X (e::es) (tjCons t r):=by
 intro out pins s σ H Q I hz q
 rw[hs]
 refine joinParts_cons (thn (h pins s σ H _ I q) fun v s1 ⟨x,H1,I1,rx,y,ex,hy,q1⟩=>?_)
 subst ex
 obtain⟨t,rfl⟩:=rx
 exact⟨hy,hr _ pins s1 σ H1 Q I1 hy q1⟩
theorem pe_joined {v1 v2:Expr}{es:List Expr}{t:TJ}(h:PJ X (v1::v2::es) t):PE X (.JoinedStr (v1::v2::es) pos) (t Str.empty):=fun pins s σ H Q I q =>
 JoinedStr_many (h _ pins s σ H Q I (by decide) q)
def tFmt (t:TE):TE:=fun σ H Q=>t σ H fun v H1=>(∃x,v=.str x/\x.length<=sizeLine/\Q (.str x) H1)\/∃i:Int,v=.int i/\i.natAbs.log2<1920/\Q (.str (Str.ofString (toString i))) H1
theorem pe_fmt {e:Expr}{t:TE}(h:PE X e t):PE X (.FormattedValue e (-1) none pos) (tFmt t):=by
 intro pins s σ H Q I q
 refine FormattedValue_plain (thn (h pins s σ H _ I q) fun v s1 ⟨x,H1,I1,rx,q1⟩=>?_)
 rcases q1 with⟨y,ex,hz,q2⟩|⟨i,ex,hz,q2⟩
 ·subst ex
  obtain⟨t,rfl⟩:=rx
  exact formatField_str (fun t' tk=>⟨.str y,H1,I1.tok _,⟨_,rfl⟩,q2⟩) hz
 ·subst ex
  obtain⟨t,rfl⟩:=rx
  exact formatField_int_small hz ⟨.str _,H1,I1.tok _,⟨_,rfl⟩,q2⟩
def gFmt:D->M D
 |.str x=>if x.length<=sizeLine then .ok (.str x) else .bad
 |.int i=>if i.natAbs.log2<1920 then .ok (.str (Str.ofString (toString i))) else .bad
 |_=>.bad
theorem pd_fmt {e:Expr}{f:DSt->M D}(h:PEd X E e f):PEd X E (.FormattedValue e (-1) none pos) (eUn gFmt f):=by
 obtain⟨t,p,q⟩:=h
 refine⟨_,pe_fmt p,fun H0 B Hf sd σ H Q sr h=>?_⟩
 refine q H0 B Hf sd σ H _ sr (Po.bind h fun d v Hf1 H1 _ g1 rv h1=>?_)
 unfold gFmt at h1
 split at h1
 ·split at h1
  ·rename_i hz
   exact .inl ⟨_,rep_str.mp rv,hz,Po.ret g1.sub h1 (rep_str.mpr rfl)⟩
  ·exact h1.elim
 ·split at h1
  ·rename_i hz
   exact .inr ⟨_,rep_int.mp rv,hz,Po.ret g1.sub h1 (rep_str.mpr rfl)⟩
  ·exact h1.elim
 ·exact h1.elim
def PJd (X:Cx)(E:XK)(es:List Expr)(f:Str->DSt->M D):Prop :=
 ∃t:TJ,PJ X es t/\∀(out:Str) (H0:Hp) (B:Addr->Prop) (Hf:Hp) (sd:DSt) (σ:L2.St) (H:Hp) (Q:VK),SR X.K H0 B Hf sd σ H->Po X.K E (rV X.K) Hf H (f out sd) Q->t out σ H Q
def jNil (out:Str)(_:DSt):M D:=.ok (.str out)
def jCons (f:DSt->M D)(r:Str->DSt->M D)(out:Str)(sd:DSt):M D:=(f sd).bind fun d=>match d with
 |.str y=>if(out++y).length<=sizeLine then r (out++y) sd else .bad
 |_=>.bad
theorem pjd_nil:PJd X E [] jNil:=⟨_,pj_nil,fun out H0 B Hf sd σ H Q sr h=>Po.ret sr.sub h (rep_str.mpr rfl)⟩
theorem pjd_cons {e:Expr}{es:List Expr}{f:DSt->M D}{r:Str->DSt->M D}(h:PEd X E e f)(hr:PJd X E es r)(hs:evalEach (e::es) X.env=eval e X.env::evalEach es X.env:=by rfl):PJd X E (e::es) (jCons f r):=by
 obtain⟨t,p,q⟩:=h
 obtain⟨t2,p2,q2⟩:=hr
 refine⟨_,pj_cons p p2 hs,fun out H0 B Hf sd σ H Q sr h=>?_⟩
 refine q H0 B Hf sd σ H _ sr (Po.bind h fun d v Hf1 H1 _ g1 rv h1=>?_)
 cases d with
 |str y =>
  dsimp only at h1
  split at h1
  ·rename_i hz
   exact⟨y,rep_str.mp rv,hz,q2 _ H0 B Hf1 sd σ H1 Q (sr.gr g1) h1⟩
  ·exact h1.elim
 |_=>exact h1.elim
def eJoined (f:Str->DSt->M D)(sd:DSt):M D:=f Str.empty sd
theorem pd_joined {v1 v2:Expr}{es:List Expr}{f:Str->DSt->M D}(h:PJd X E (v1::v2::es) f):PEd X E (.JoinedStr (v1::v2::es) pos) (eJoined f):=by
 obtain⟨t,p,q⟩:=h
 exact⟨_,pe_joined p,fun H0 B Hf sd σ H Q sr h=>q _ H0 B Hf sd σ H Q sr h⟩
end
end DL
namespace DL
open PySem PySem.Spec PyProof.Rows L2 PySem.W
def Ents (w:World):List DictEntry->List (Str×Str)->Prop
 |[],[]=>True
 |e::es,kv::r=>e.hash=hashStr w kv.1/\(∃t,e.key=.str kv.1 t)/\(∃t,e.val=.str kv.2 t)/\Ents w es r
 |_,_=>False
structure DkM (w:World) (K:Frag) (mg:Str->Option Value) (x:Str) (kvs:List (Str×Str)):Prop where
 ex:∃(a:Addr) (es:Array DictEntry) (ep:Nat),mg x=some (.ref a)/\K.lookup a=some ⟨.type "dict", none,.dict es ep,#[]⟩/\Ents w es.toList kvs/\(kvs.map (·.1)).Nodup/\(a==sysModules)=false
theorem dkm_mk {w:World}{K:Frag}{h:Heap}{mg:Str->Option Value}{x:Str}{kvs:List (Str×Str)}{a:Addr}{es:Array DictEntry}{ep:Nat}(X:K.In h)(G:h.Ns mainGlobals mg)(ya:nsIn K mainGlobals x=some (some (.ref a)))
  (yl:K.lookup a=some ⟨.type "dict", none,.dict es ep,#[]⟩) (ye:Ents w es.toList kvs) (yn:(kvs.map (·.1)).Nodup) (ys:(a==sysModules)=false):DkM w K mg x kvs:=⟨_,_,_,mg_of X G ya,yl,ye,yn,ys⟩
theorem kv_keys {κ:Type}:∀{kvs:List (κ×V)} {vs:List (κ×Value)},KV kvs vs->vs.map (·.1)=kvs.map (·.1):=by
 intro kvs vs r
 unfold KV at r
 induction r with
 |nil=>rfl
 |cons h t ih=>rw[List.map_cons,List.map_cons,ih,h.1]
section
variable {X:Cx} {E:XK} {pos:Pos} {a:Expr}
theorem pd_callXC {k:Nat}{ps:List Str}{F:List D->M S}{x:Str}{p:Pos}{es:List Expr}{fs:DSt->M (List D)}(c:ClX X.prog X.w X.K X.mg X.base k x ps F)(hr:Room k X.A)(ho:Out X E)(ha:PAd X E (a::es) fs)(hg:Gl X x:=by rfl) (hdb:(x==("__debug__" : Str))=false:=by decide) (he:starEach (a::es) X.env=(false,eval a X.env)::starEach es X.env:=by rfl) (hpl:(backTo pos (starEach es X.env)).any (·.1)=false:=by rfl):PEd X E (.Call (.Name x p) (a::es) [] pos) (eCallX F fs) :=
 let ⟨_,_,G,b,kp,m⟩:=c.ex
 pd_callX G hr m kp b ho ha hg hdb he hpl
end
end DL
namespace PySem
open PyProof.Rows PySem.W
theorem raise_plain {M:Model}{A:Around}{E:Value->Shared->Prop}{s:Shared}{α:Type}{Q:α->Shared->Prop}{a:Addr}(hh:A.handled=none)(h:E (.ref a) s):wpAny M A (raiseNew (.ref a):Sem α) Q E s:=by
 unfold raiseNew
 refine wpAny_bind (wpAny_handled ?_)
 rw[hh]
 first
  |exact wpAny_bind (wpAny_pure (wpAny_throw h))
  |exact wpAny_throw h
def DictRaw (h:Heap)(d:Addr)(es:Array DictEntry)(ep:Nat):Prop:=∃o,h.get? d=some o/\o.ExactDict/\o.data=.dict es ep
section
variable {prog:Program} {w:World} {A:Around} {E:Value->Shared->Prop} {s:Shared}
theorem DictRaw.typeIs {d:Addr}{es:Array DictEntry}{ep:Nat}(x:DictRaw s.heap d es ep):s.TypeIs (.ref d) "dict" := let ⟨o,ho,hx,_⟩:=x;⟨o,ho,hx.1⟩
theorem DictRaw.at' {h h':Heap}{d:Addr}{es:Array DictEntry}{ep:Nat}(x:DictRaw h d es ep)(e:∀o,h.get? d=some o->h'.get? d=some o):DictRaw h' d es ep:=let ⟨o,ho,r⟩:=x;⟨o,e _ ho,r⟩
theorem iter_raw {d:Addr}{es:Array DictEntry}{ep:Nat}{Q:Value->Shared->Prop}(hd:(d==sysModules)=false)(hm:DictRaw s.heap d es ep)
  (hQ:Q (.ref s.heap.objs.size) { s with heap:=s.heap.push { cls:=.type "dict_keyiterator", data:=.fields #[.ref d,.int 0 0,.int es.size 0,.int ep 0] } }) :
  wpAny (model prog w) A (pyIter (.ref d)) Q E s:=by
 have hT:=hm.typeIs
 obtain⟨o,ho,hc,hdat⟩:=id hm
 refine wpAny_pyIter_slot hT PySem.F.slot_dict_iter (wpAny_call_entry PySem.F.slot_dict_iter hT PySem.F.entry_dict_iter ?_ (PySem.F.args_dict_iter_1 _))
 unfold Builtin.«dict.__iter__»
 refine wpAny_bind ?_
 unfold Builtin.Dict.dictSlotNone
 refine wpAny_bind (wpAny_notOrdered_dict hT ?_)
 show wpAny _ _ (pure (Value.ref d)) _ _ s
 refine wpAny_pure ?_
 show wpAny _ _ (Builtin.Dict.showsAll d>>=_) _ _ s
 unfold Builtin.Dict.showsAll
 rw[if_neg (by rw[hd];exact Bool.false_ne_true)]
 refine wpAny_bind (wpAny_pure ?_)
 refine wpAny_bind (wpAny_dictEntries ho hdat ?_)
 refine wpAny_bind (wpAny_dictEpoch ho hdat ?_)
 refine wpAny_bind (wpAny_newObj_type (wpAny_pure ⟨_,rfl,"dict_keyiterator", _,⟨_,Heap.get?_push_size _ rfl,rfl⟩,PySem.F.slot_dict_keyiterator_next.lookup,?_⟩))
 simpa[rawInt] using hQ
theorem next_raw {it d:Addr}{i ep:Nat}{es:Array DictEntry}{Q:Option Value->Shared->Prop}(hit:s.heap.IsKeyIter it d i es.size ep)(hm:DictRaw s.heap d es ep)(hlt:i<es.size)(hQ:∀h',h'.IsKeyIter it d (i+1) es.size ep->Heap.SameBut it s.heap h'->Q (some es[i].key) { s with heap:=h' }) :
  wpAny (model prog w) A (pyNext (.ref it)) Q E s:=by
 have ty:=hit.typeIs
 obtain⟨o,ho,hc,hd⟩:=id hit
 obtain⟨od,hod,hcd,hdd⟩:=id hm
 unfold pyNext
 refine wpAny_bind (wpAny_attempt (wpAny_callSpecial?_slot (name:=Str.ofString "__next__") ty PySem.F.slot_dict_keyiterator_next (wpAny_call_entry PySem.F.slot_dict_keyiterator_next ty PySem.F.entry_dict_keyiterator_next ?_ (PySem.F.args_dict_keyiterator_next_1 _))))
 obtain⟨oc,odt,odd,osl⟩:=o
 simp only at hc hd
 subst hc hd
 obtain⟨xc,xdt,xdd,xsl⟩:=od
 simp only at hdd
 subst hdd
 have own:Builtin.Dict_items.ownsTuple ((Manifest.find? "dict_keyiterator").elim "dict_keyiterator" fun x=>x.tpName)=false:=by rw[find?_eq_fast];decide +kernel
 have neg:¬((i:Int)<0):=by omega
 have at':es[(i:Int).toNat]?=some es[i]:=by rw[Int.toNat_natCast];exact Array.getElem?_eq_getElem hlt
 repeat (any_goals (first|assumption|wp_step|(simp only[own,bne_self_eq_false,Bool.false_eq_true,if_false,neg,at'])))
 refine⟨_,rfl,wpAny_pure ?_⟩
 rw[if_neg (by decide +kernel)]
 refine hQ _ ⟨_,Heap.get?_update_self _ ho rfl,rfl,?_⟩ (Heap.SameBut.update ..)
 simp[Obj.mapFields,rawInt]
theorem next_raw_end {it d:Addr}{ep:Nat}{es:Array DictEntry}{Q:Option Value->Shared->Prop}(hh:A.handled=none)(hit:s.heap.IsKeyIter it d es.size es.size ep)(hm:DictRaw s.heap d es ep)(hQ:∀h',Heap.ExtBut it s.heap h'->Q none { s with heap:=h' }):wpAny (model prog w) A (pyNext (.ref it)) Q E s:=by
 have ty:=hit.typeIs
 obtain⟨o,ho,hc,hd⟩:=id hit
 obtain⟨od,hod,hcd,hdd⟩:=id hm
 unfold pyNext
 refine wpAny_bind (wpAny_attempt (wpAny_callSpecial?_slot (name:=Str.ofString "__next__") ty PySem.F.slot_dict_keyiterator_next (wpAny_call_entry PySem.F.slot_dict_keyiterator_next ty PySem.F.entry_dict_keyiterator_next ?_ (PySem.F.args_dict_keyiterator_next_1 _))))
 obtain⟨oc,odt,odd,osl⟩:=o
 simp only at hc hd
 subst hc hd
 obtain⟨xc,xdt,xdd,xsl⟩:=od
 simp only at hdd
 subst hdd
 have own:Builtin.Dict_items.ownsTuple ((Manifest.find? "dict_keyiterator").elim "dict_keyiterator" fun x=>x.tpName)=false:=by rw[find?_eq_fast];decide +kernel
 have neg:¬((es.size:Int)<0):=by omega
 have at':es[(es.size:Int).toNat]?=none:=by rw[Int.toNat_natCast];exact Array.getElem?_eq_none (Nat.le_refl _)
 have hh1:A.in1.handled=none:=hh
 repeat (any_goals (first|assumption|wp_step|(simp only[own,bne_self_eq_false,Bool.false_eq_true,if_false,neg,at',hh1])))
 refine raise_plain hh1 (wpAny_bind ?_)
 refine wpAny_isInstance (b:=true) (T := "StopIteration") ⟨_,Heap.get?_push_size _ rfl,rfl⟩ isSubtype_stop (wpAny_pure ?_)
 exact hQ _ (((Heap.SameBut.update s.heap it _).extBut.push _).push _)
theorem walks_raw (hh:A.handled=none)(I d:Addr)(hne:d≠I)(es:Array DictEntry)(ep:Nat) :
  Walks prog w A I [I,d] [I] es.size (fun i v=>∃h:i<es.size,v=es[i].key) (fun i h=>h.IsKeyIter I d i es.size ep/\DictRaw h d es ep) where
 sub:=fun b hb=>by simp at hb;simp[hb]
 frame:=fun _ _ _ st hk=>⟨st.1.at fun o e=>hk I (by simp) o e,st.2.at' fun o e=>hk d (by simp) o e⟩
 item:=fun i s Q E hi st hQ=>by
  refine next_raw st.1 st.2 hi fun h' hit' hs'=>?_
  exact hQ _ h' s.toks ⟨hi,rfl⟩ ⟨hit',st.2.at' fun o e=>(hs'.2 d hne).trans e⟩ fun b o hb e=>hs'.extBut b o (fun h=>hb (by simp[h])) e
 done:=fun s Q E st hQ=>next_raw_end hh st.1 st.2 fun h' he'=>hQ h' s.toks fun b o hb e=>he' b o (fun h=>hb (by simp[h])) e
 self:=fun _ _ _ _ st hQ=>wpAny_pyIter_keyiter st.1 hQ
theorem src_raw {d:Addr}{es:Array DictEntry}{ep:Nat}(lo:(d==sysModules)=false):KdlSrc prog w "dict" d d es.size (fun i v=>∃h:i<es.size,v=es[i].key) (fun h=>DictRaw h d es ep) where
 type:=fun _ hm=>hm.typeIs
 there:=fun _ hm=>let ⟨_,ho,_⟩:=hm;⟨Heap.lt_size ho,Heap.lt_size ho⟩
 keep:=fun _ _ hm hk=>hm.at' fun o e=>hk d (.inl rfl) o e
 notList:=by decide
 notTuple:=by decide
 hint:=fun _ _ _ _ hm hq=>kdl_hint_dict hm.typeIs hq
 iter:=fun _ _ hh hm=>⟨_,_,(fun _ _ hq=>iter_raw lo hm hq),walks_raw hh _ d (let ⟨_,ho,_⟩:=hm;Nat.ne_of_lt (Heap.lt_size ho)) es ep,⟨⟨_,Heap.get?_push_size _ rfl,rfl,rfl⟩,hm.at' fun o e=>Heap.get?_push_of_some _ e⟩⟩
theorem list_raw {d:Addr}{es:Array DictEntry}{ep:Nat}{Q:Value->Shared->Prop}(lo:(d==sysModules)=false)(hh:A.handled=none)(hm:DictRaw s.heap d es ep)(hn:es.size<=sizeLine)
  (h:∀h' tk c',(∀b o,s.heap.get? b=some o->h'.get? b=some o)->h'.get? s.heap.objs.size=some { cls:=.type "list", dict:=none,data:=.seq (es.map (·.key)) c',slots:=#[] }->Q (.ref s.heap.objs.size) { s with heap:=h',toks:=tk }) :
  wpAny (model prog w) A (call (.type "list") [.ref d]) Q E s:=by
 refine kdl_call (src_raw (ep:=ep) lo) hh hm hn fun h' tk acc c' k g it=>?_
 have:acc=es.map (·.key):=by
  obtain⟨i1,i2⟩:=it
  apply Array.ext
  ·rw[Array.size_map];exact i1
  ·intro j h1 h2
   obtain⟨_,e⟩:=i2 j _ (Array.getElem?_eq_getElem h1)
   rw[e,Array.getElem_map]
 rw[this] at g
 exact h h' tk c' k g
end
end PySem
namespace DL
open PySem PySem.Spec PySem.Calls PySem.Builtin PySem.Builtin.ObjectAttr PyProof.Rows L2 PySem.W
def exPlain (K:Frag)(C:Addr):Bool:=match K.lookup C with
 |some ⟨.type "type", _,.cls cd,sl⟩=>(match cd.mro,sl.toList with
  |.ref C'::bm,[_,_,_,_,some (.builtin n),_]=>C'==C&&n == "ValueError.__new__" && !cd.hasDel&&tailIn K exMro bm&&nsOkIn K cd.ns&&nsIn K cd.ns "__init__" == some none
  |_,_=>false)
 |_=>false
theorem nsMap_none_of {K:Frag}{h:Heap}{N:Addr}{mg:Str->Option Value}{n:Str}(X:K.In h)(G:h.Ns N mg)(e:nsIn K N n=some none):mg n=none:=by
 obtain⟨o,es,ep,ho,hd,_,hf⟩:=G
 unfold nsIn at e
 split at e
 ·rename_i c d es' n' sl q
  have:=X _ _ q
  rw[ho] at this
  cases this
  cases hd
  split at e
  ·cases e
  ·rename_i he
   rw[<-hf]
   unfold nsFind findBy
   rw[<-Array.find?_toList,he]
   rfl
 ·cases e
structure XP (K:Frag) (C:Addr):Prop where
 at_:∃bm N nm qn bs hdct sn sub ab col dd k0 k1 k2 k3 k5,∀h:Heap,K.In h->h.get? C=some (excClassObj nm qn C N bs bm hdct sn sub ab col dd k0 k1 k2 k3 k5 "ValueError.__new__")/\OwnTail h exMro bm /\
  ∃mN,h.Ns N mN/\mN "__init__" = none
theorem xp_of {K:Frag}{C:Addr}(q:exPlain K C=true):XP K C:=by
 unfold exPlain at q
 split at q
 ·rename_i dd cd sl ho
  split at q
  ·rename_i C' bm k0 k1 k2 k3 n k5 hm hs
   simp only[Bool.and_eq_true,beq_iff_eq,Bool.not_eq_true'] at q
   obtain⟨⟨⟨⟨⟨rfl,rfl⟩,hdel⟩,ht⟩,hok⟩,hni⟩:=q
   obtain⟨nm,bs,mro,ns,qn,hd,sn,sub,ab,col,del⟩:=cd
   dsimp only at hm hdel hok hni
   subst hm hdel
   have hsl:sl=#[k0,k1,k2,k3,some (.builtin "ValueError.__new__"),k5]:=by
    obtain⟨l⟩:=sl
    simp only at hs
    rw[hs]
   subst hsl
   exact⟨bm,ns,nm,qn,bs,hd,sn,sub,ab,col,dd,k0,k1,k2,k3,k5,fun h X=>⟨X _ _ ho,tail_of_in X ht,_,.of_isNs (isNs_of_in X hok),nsMap_none_of X (.of_isNs (isNs_of_in X hok)) hni⟩⟩
  ·cases q
 ·cases q
section
variable {prog:Program} {w:World} {A:Around} {E:Value->Shared->Prop} {h:Heap} {g:Array GenState} {d:Drawn} {t:Nat} {os:OsState}
variable {nm q:Str} {C N:Addr} {bs bm bmB:List Value} {hdct:Bool} {sn:List Str} {sub:List Value} {ab:Bool} {col:Option Bool} {dd:Option Addr} {k0 k1 k2 k3 k5:Option Value} {B newId initId:String}
theorem p_type_call (FB:ExcBaseFacts B newId initId bmB)(T:OwnTail h bmB bm){mN:Str->Option Value}{Q:Fin->Shared->Prop}(hC:h.get? C=some (excClassObj nm q C N bs bm hdct sn sub ab col dd k0 k1 k2 k3 k5 newId))(hN:h.Ns N mN) (hI:mN "__init__" = none)
  (k:∀h' t',(∀b o,h.get? b=some o->h'.get? b=some o)->h'.get? (h.objs.size+1)=some (excO C t')->Q (.done (.ret (.ref (h.objs.size+1)))) ⟨h',g,d,t,os⟩) :
  wpAny (model prog w) A (Builtin.«type.__call__» ⟨[.ref C],[]⟩) Q E ⟨h,g,d,t,os⟩:=by
 repeat (first|with_reducible refine wpAny_loadPart_at hC ?_|with_reducible refine wpAny_madeBy_exc hC ?_|wp_step)
 refine codeAny_call_builtin_code (Code.quiet_builtin _ FB.quiet) (wpAny_check_new_subT FB T hC ?_)
 refine codeAny_exc_new_subT FB T hC ?_ (by decide)
 show wpAny _ _ _ _ _ _
 have up:∀{b:Addr} {o:Obj},h.get? b=some o->((h.push (tupO [])).push (excO C h.objs.size)).get? b=some o:=fun e=>Heap.get?_push_of_some _ (Heap.get?_push_of_some _ e)
 have c1:=up hC
 have n1:((h.push (tupO [])).push (excO C h.objs.size)).Ns N mN:=let ⟨o,es,ep,e,r⟩:=hN;⟨o,es,ep,up e,r⟩
 have x1:((h.push (tupO [])).push (excO C h.objs.size)).get? (h.objs.size+1)=some (excO C h.objs.size):=by heap_get
 have cC:(Value.ref C::bm).contains (.ref C)=true:=by simp
 have t1:=T.keeps (h':=(h.push (tupO [])).push (excO C h.objs.size)) fun b o e=>up e
 unfold isInstance
 repeat (first|with_reducible refine wpAny_loadPart_at x1 ?_|(with_reducible refine wpAny_isSubtype_exc c1 ?_;rw[cC])|wp_step)
 show wpAny _ _ (typeLookup (.ref C) _) _ _ _
 refine wpAny_typeLookup_tail c1 n1 t1 FB.mroIs FB.init.lookup ?_
 rw[hI]
 refine wpAny_holding (wpAny_bind (wpAny_of_eq (FB.init.bind _) ?_))
 refine wpAny_bind (wpAny_call (codeAny_call_builtin FB.init.plain FB.initEntry (wpAny_check_init_subT FB t1 c1 x1 rfl ?_)))
 wp_walk
 refine k _ (h.objs.size+2) (fun b o hb=>?_) ?_
 ·rw[Heap.get?_update_other _ _ (Nat.ne_of_gt (Nat.lt_succ_of_lt (Heap.lt_size hb)))]
  exact Heap.get?_push_of_some _ (up hb)
 ·rw[Heap.get?_update_self _ (Heap.get?_push_of_some _ x1) rfl]
  simp only[Heap.size_push]
  rfl
theorem p_call (FB:ExcBaseFacts B newId initId bmB)(T:OwnTail h bmB bm){mN:Str->Option Value}{Q:Value->Shared->Prop}(hC:h.get? C=some (excClassObj nm q C N bs bm hdct sn sub ab col dd k0 k1 k2 k3 k5 newId))(hN:h.Ns N mN) (hI:mN "__init__" = none)
  (k:∀h' t',(∀b o,h.get? b=some o->h'.get? b=some o)->h'.get? (h.objs.size+1)=some (excO C t')->Q (.ref (h.objs.size+1)) ⟨h',g,d,t,os⟩) :
  wpAny (model prog w) A (call (.ref C) []) Q E ⟨h,g,d,t,os⟩:=by
 have a1:=tc_lookup
 have a2:=tc_bind (.ref C)
 have a3:(⟨h,g,d,t,os⟩:Shared).TypeIs (.ref C) "type" := ⟨_,hC,rfl⟩
 refine wpAny_call (codeAny_of_tree ?_)
 show wpAny _ _ (callAny (.ref C) _) _ _ _
 repeat (any_goals (first|assumption|with_reducible refine wpAny_loadPart_at hC ?_|wp_step))
 refine⟨rfl,?_⟩
 exact codeAny_call_builtin_at (Code.quiet_builtin _ (by decide +kernel)) entry_typeCall (wpAny_check_type_call_sub hC (p_type_call FB T hC hN hI fun h' t' z1 z2=>k h' t' z1 z2))
end
section
variable {X:Cx} {E:XK} {C:Addr} {x:Str} {np pos cpos:Pos}
theorem ps_raise0 (o:Out X E)(hc:X.calm=true)(xp:XP X.K C)(kp:keepIn X.K (.ref C)=true)(hg:Gl X x)(hm:X.mg x=some (.ref C)) (hdb:(x==("__debug__" : Str))=false:=by decide):PS X (.Raise (some (.Call (.Name x np) [] [] cpos)) none pos) (fun _ _ H=>E (.ref C) none H):=by
 intro pins s σ H D I h
 obtain⟨bm,N,nm,qn,bs,hdct,sn,sub,ab,col,dd,k0,k1,k2,k3,k5,all⟩:=xp.at_
 obtain⟨hC,T,mN,hN,hI⟩:=all s.heap I.kIn
 have hB:(Value.ref C::bm).contains (.type "BaseException")=true:=by
  rw[List.contains_cons,T.hasType (show exMro.contains (.type "BaseException")=true by decide +kernel),Bool.or_true]
 rw[arm_exec_Raise]
 refine wpAny_bind (wpAny_standAt ?_)
 unfold raiseStmt
 have core:wpAny (model X.prog X.w) X.A (eval (.Call (.Name x np) [] [] cpos) X.env) (fun v s₁=>∃a t,v=.ref a/\X.K.In s₁.heap/\s₁.heap.get? a=some (excO C t)/\X.xe (.ref a) s₁) X.xe s:=by
  refine wpAny_Call_Name_kw (ld_glob I hg hm ?_ hdb)
  refine callWith_K0 I.kIn kp ?_
  obtain⟨hh,g,d,tk,os⟩:=s
  refine p_call PySem.F.excBase_ValueError T hC hN hI fun h' t' z1 z2=>?_
  have I2:Inv X pins σ H ⟨h',g,d,tk,os⟩:=I.kept (h':=h') (t':=tk) z1
  have ne:H (hh.objs.size+1)=none:=I.hok.fresh (Nat.le_succ _)
  have le:X.s₀.heap.objs.size<=hh.objs.size+1:=Nat.le_trans I.sz (Nat.le_succ _)
  exact⟨_,t',rfl,I2.kIn,z2,o pins σ H _ _ (.ref C) none _ I2 ⟨_,_,z2,rfl,rfl,rfl,by simp,.inl ⟨rfl,rfl⟩⟩ ne ne le le h⟩
 refine wpAny_bind (wpAny_mono (wpAny_bind (wpAny_mono core (fun v s₁ h₁=>wpAny_bind (wpAny_standAt (wpAny_pure h₁))) fun _ _ z=>z)) (fun v s₁ h₁=>?_) fun _ _ z=>z)
 obtain⟨a,t,rfl,KI,he,hE⟩:=h₁
 obtain⟨hC,T,_⟩:=all _ KI
 obtain⟨hp,g,d,tk,os⟩:=s₁
 repeat (first|with_reducible refine wpAny_loadPart_at he ?_|with_reducible refine wpAny_loadPart_at hC ?_|(with_reducible refine wpAny_isSubtype_exc hC ?_;rw[hB])|wp_step)
 exact wpAny_raiseNew_none (I.ok.hd hc) hE
structure Xq (K:Frag) (mg:Str->Option Value) (c:Str):Prop where
 ex:∃C:Addr,nsIn K mainGlobals c=some (some (.ref C))/\mg c=some (.ref C)/\exPlain K C=true/\keepIn K (.ref C)=true
theorem xq_mk {K:Frag}{h:Heap}{mg:Str->Option Value}{c:Str}{C:Addr}(X:K.In h)(G:h.Ns mainGlobals mg)(ya:nsIn K mainGlobals c=some (some (.ref C)))(yp:keepIn K (.ref C)=true)(ye:exPlain K C=true):Xq K mg c:=⟨_,ya,mg_of X G ya,ye,yp⟩
def sRaise0 (c:Str)(_:DSt):M O:=.ex ⟨c,[],[]⟩
theorem psd_raise0 {c:Str}(x:Xq X.K X.mg c)(o:Out X E)(hc:X.calm=true)(hg:Gl X c:=by rfl) (hdb:(c==("__debug__" : Str))=false:=by decide):PSd X E (.Raise (some (.Call (.Name c np) [] [] cpos)) none pos) (sRaise0 c):=by
 obtain⟨C,ya,mc,ye,yp⟩:=x.ex
 refine⟨_,ps_raise0 o hc (xp_of ye) yp hg mc hdb,fun H0 B Hf sd σ H D' sr h=>?_⟩
 exact h (.ref C) none Hf H (Same.refl _) sr.fin ⟨C,[],rfl,ya,⟨rfl,rfl⟩,Reps.nil⟩
end
end DL
namespace DL
open PySem PySem.Spec PyProof.Rows L2
structure Dk where
 hall:D
 people:List (Key×D)
def DkAt (K:PySem.W.Frag)(C:Addr)(Hf H:Hp)(a p:Addr)(r:Dk):Prop :=
 ∃dx vh ys,H a=some (.ins C dx [("hall", vh),("people", .ref p)])/\Rep K Hf r.hall vh/\H p=some (.dK ys)/\RepKV K Hf r.people ys/\p≠a/\Hf p=none
theorem lv_dk {H:Hp}{a:Addr}{ys:List (Key×V)}(h:H a=some (.dK ys)):Lv H a:=⟨_,h,fun _ q=>by cases q⟩
structure KSt (K:PySem.W.Frag) (C:Addr) (j:Nat) (a:Addr) (H0:Hp) (B:Addr->Prop) (Hf:Hp) (sd:DSt) (σ:L2.St) (H:Hp) (r:Dk):Prop where
 sr:SR K H0 B Hf sd σ H
 sj:σ[j]?=some (some (.ref a))
 h0:H0 a=none
 hf:Hf a=none
 im:∀(i:Nat) (t:S),sd[i]?=some (some t)->t.own=false
 at_:∃p,H0 p=none/\DkAt K C Hf H a p r
structure KEnd (K:PySem.W.Frag) (C a:Addr) (H0:Hp) (B:Addr->Prop) (Hf H:Hp) (r:Dk):Prop where
 fin:Fin' H0 B Hf H
 hf:Hf a=none
 at_:∃p,H0 p=none/\DkAt K C Hf H a p r
inductive KE (α:Type) where
 |ok (x:α) (r:Dk)|ex (x:XV) (r:Dk)|bad
def KE.bind {α β:Type}(e:KE α)(k:α->Dk->KE β):KE β:=match e with
 |.ok x r=>k x r
 |.ex x r=>.ex x r
 |.bad=>.bad
def KE.of {α:Type}(m:M α)(r:Dk):KE α:=match m with
 |.ok x=>.ok x r
 |.ex x=>.ex x r
 |.bad=>.bad
section
variable {K:PySem.W.Frag} {C a:Addr} {j:Nat} {H0:Hp} {B:Addr->Prop} {Hf H Hf' H':Hp} {sd:DSt} {σ:L2.St} {r:Dk}
theorem DkAt.gr {p:Addr}(x:DkAt K C Hf H a p r)(g:Gr Hf H Hf' H'):DkAt K C Hf' H' a p r:=by
 obtain⟨dx,vh,ys,e1,e2,e3,e4,e5,e6⟩:=x
 exact⟨dx,vh,ys,g.all _ _ e1,e2.mono g.fz,g.all _ _ e3,e4.mono g.fz,e5,g.ban p (lv_dk e3) e6⟩
theorem KSt.gr (x:KSt K C j a H0 B Hf sd σ H r)(g:Gr Hf H Hf' H'):KSt K C j a H0 B Hf' sd σ H' r:=by
 obtain⟨p,e0,d⟩:=x.at_
 obtain⟨dx,vh,ys,e1,_⟩:=id d
 exact⟨x.sr.gr g,x.sj,x.h0,g.ban a (lv_ins e1) x.hf,x.im,p,e0,d.gr g⟩
theorem KSt.fin (x:KSt K C j a H0 B Hf sd σ H r):KEnd K C a H0 B Hf H r:=⟨x.sr.fin,x.hf,x.at_⟩
theorem KSt.set (x:KSt K C j a H0 B Hf sd σ H r)(i:Nat)(hi:i≠j){d:D}{v:V}(h:Rep K Hf d v):KSt K C j a H0 B Hf (sd.set i (some (.im d))) (σ.set i (some v)) H r:=by
 refine⟨x.sr.set_im i h,(List.getElem?_set_ne hi).trans x.sj,x.h0,x.hf,fun k t e=>?_,x.at_⟩
 by_cases hk:i=k
 ·subst hk
  have hl:i<sd.length:=by
   have:=(List.getElem?_eq_some_iff.mp e).1
   simpa using this
  rw[List.getElem?_set_self hl] at e
  cases e
  rfl
 ·rw[List.getElem?_set_ne hk] at e
  exact x.im k t e
theorem KSt.upd (x:KSt K C j a H0 B Hf sd σ H r){b:Addr}(h0:H0 b=none)(hf:Hf b=none)(o:HO):SR K H0 B Hf sd σ (L2.upd H b o):=by
 have sr:=x.sr
 refine⟨fun c u q=>?_,fun c u q=>?_,sr.ban,sr.bt,sr.len,sr.imS,fun i t e o=>?_,fun i j t u p hij e1 o1 _ _ _ _=>?_⟩
 ·rw[Zj (Zk q hf)];exact sr.sub c u q
 ·rw[Zj (Zk q h0)];exact sr.all c u q
 ·rw[x.im i t e] at o;cases o
 ·rw[x.im i t e1] at o1;cases o1
theorem KSt.hall (x:KSt K C j a H0 B Hf sd σ H r){d:D}{v:V}(h:Rep K Hf d v):∃dx fs,H a=some (.ins C dx fs)/\fs.length<1000/\KSt K C j a H0 B Hf sd σ (L2.upd H a (.ins C dx (putF "hall" v fs))) ⟨d,r.people⟩:=by
 obtain⟨p,e0,dx,vh,ys,e1,e2,e3,e4,e5,e6⟩:=x.at_
 refine⟨dx,_,e1,(show 2<1000 by decide),x.upd x.h0 x.hf _,x.sj,x.h0,x.hf,x.im,p,e0,dx,v,ys,?_,h,by rw[Zj e5];exact e3,e4,e5,e6⟩
 rw[Zn]
 rfl
theorem KSt.people (x:KSt K C j a H0 B Hf sd σ H r){p:Addr}(hp:H p=none):∃dx fs,L2.upd H p (.dK []) a=some (.ins C dx fs)/\fs.length<1000/\KSt K C j a H0 B Hf sd σ (L2.upd (L2.upd H p (.dK [])) a (.ins C dx (putF "people" (.ref p) fs))) ⟨r.hall,[]⟩:=by
 obtain⟨p0,e0,dx,vh,ys,e1,e2,e3,e4,e5,e6⟩:=x.at_
 have ha:p≠a:=fun z=>by rw[z,e1] at hp;cases hp
 have h0p:H0 p=none:=by
  cases q:H0 p with
  |none=>rfl
  |some u=>rw[x.sr.all _ _ q] at hp;cases hp
 have hfp:Hf p=none:=by
  cases q:Hf p with
  |none=>rfl
  |some u=>rw[x.sr.sub _ _ q] at hp;cases hp
 have s1:=x.upd h0p hfp (.dK [])
 have x1:KSt K C j a H0 B Hf sd σ (L2.upd H p (.dK [])) r:=⟨s1,x.sj,x.h0,x.hf,x.im,p0,e0,dx,vh,ys,by rw[Zj (Ne.symm ha)];exact e1,e2,by
  have:p0≠p:=fun z=>by rw[<-z,e3] at hp;cases hp
  rw[Zj this];exact e3,e4,e5,e6⟩
 refine⟨dx,[("hall", vh),("people", .ref p0)],by rw[Zj (Ne.symm ha)];exact e1,(show 2<1000 by decide),x1.upd x.h0 x.hf _,x.sj,x.h0,x.hf,x.im,p,h0p,dx,vh,[],?_,e2,by rw[Zj ha,Zn],.nil,ha,hfp⟩
 rw[Zn]
 rfl
theorem KSt.put (x:KSt K C j a H0 B Hf sd σ H r){p:Addr}{ys:List (Key×V)}(e0:H0 p=none)(e1:H p=some (.dK ys)){dx:Addr}{vh:V} (e2:H a=some (.ins C dx [("hall", vh),("people", .ref p)])) (e3:Rep K Hf r.hall vh) (e4:RepKV K Hf r.people ys) (e5:p≠a) (e6:Hf p=none) {k:Key} {d:D} {v:V} (h:Rep K Hf d v):KSt K C j a H0 B Hf sd σ (L2.upd H p (.dK (putK ys k v))) ⟨r.hall,putD r.people k d⟩ :=
 ⟨x.upd e0 e6 _,x.sj,x.h0,x.hf,x.im,p,e0,dx,vh,_,by rw[Zj (Ne.symm e5)];exact e2,e3,Zn,e4.put k h,e5,e6⟩
end
def PoE (K:PySem.W.Frag)(E:XK)(C:Addr)(j:Nat)(a:Addr)(H0:Hp)(B:Addr->Prop){α β:Type}(R:Hp->α->β->Prop)(Hf:Hp)(sd:DSt)(σ:L2.St)(e:KE α)(Q:β->Hp->Prop):Prop:=match e with
 |.ok x r'=>∀v Hf' H',Same Hf Hf'->KSt K C j a H0 B Hf' sd σ H' r'->R Hf' x v->Q v H'
 |.ex x r'=>∀c dx Hf' H',Same Hf Hf'->KEnd K C a H0 B Hf' H' r'->RepX K Hf' H' x c dx->E c dx H'
 |.bad=>False
abbrev rD (K:PySem.W.Frag):Hp->D->V->Prop:=fun Hf d v=>Rep K Hf d v
abbrev rB:Hp->Bool->Bool->Prop:=fun _ a b=>a=b
def PEy (X:Cx)(E:XK)(C:Addr)(j:Nat)(e:Expr)(g:DSt->Dk->KE D):Prop :=
 ∃t:TE,PE X e t/\∀(a:Addr) (H0:Hp) (B:Addr->Prop) (Hf:Hp) (sd:DSt) (σ:L2.St) (H:Hp) (r:Dk) (Q:VK),KSt X.K C j a H0 B Hf sd σ H r->PoE X.K E C j a H0 B (rD X.K) Hf sd σ (g sd r) Q->t σ H Q
def PTy (X:Cx)(E:XK)(C:Addr)(j:Nat)(e:Expr)(g:DSt->Dk->KE Bool):Prop :=
 ∃t:TT,PT X e t/\∀(a:Addr) (H0:Hp) (B:Addr->Prop) (Hf:Hp) (sd:DSt) (σ:L2.St) (H:Hp) (r:Dk) (Q:Bool->Hp->Prop),KSt X.K C j a H0 B Hf sd σ H r->PoE X.K E C j a H0 B rB Hf sd σ (g sd r) Q->t σ H Q
inductive KO where
 |nx (sd:DSt)|rt (d:D)
def PoY (K:PySem.W.Frag)(E:XK)(C:Addr)(j:Nat)(a:Addr)(H0:Hp)(B:Addr->Prop)(Hf:Hp)(e:KE KO)(D':Ends):Prop:=match e with
 |.ok (.nx sd') r'=>∀σ' Hf' H',Same Hf Hf'->KSt K C j a H0 B Hf' sd' σ' H' r'->D'.nx σ' H'
 |.ok (.rt d) r'=>∀v Hf' H',Same Hf Hf'->KEnd K C a H0 B Hf' H' r'->Rep K Hf' d v->D'.rt v H'
 |.ex x r'=>∀c dx Hf' H',Same Hf Hf'->KEnd K C a H0 B Hf' H' r'->RepX K Hf' H' x c dx->E c dx H'
 |.bad=>False
def PSy (X:Cx)(E:XK)(C:Addr)(j:Nat)(st:Stmt)(g:DSt->Dk->KE KO):Prop :=
 ∃t:TS,PS X st t/\∀(a:Addr) (H0:Hp) (B:Addr->Prop) (Hf:Hp) (sd:DSt) (σ:L2.St) (H:Hp) (r:Dk) (D':Ends),KSt X.K C j a H0 B Hf sd σ H r->PoY X.K E C j a H0 B Hf (g sd r) D'->t D' σ H
def PSsy (X:Cx)(E:XK)(C:Addr)(j:Nat)(st:List Stmt)(g:DSt->Dk->KE KO):Prop :=
 ∃t:TS,PSs X st t/\∀(a:Addr) (H0:Hp) (B:Addr->Prop) (Hf:Hp) (sd:DSt) (σ:L2.St) (H:Hp) (r:Dk) (D':Ends),KSt X.K C j a H0 B Hf sd σ H r->PoY X.K E C j a H0 B Hf (g sd r) D'->t D' σ H
theorem PoY.weak {K:PySem.W.Frag}{E:XK}{C:Addr}{j:Nat}{a:Addr}{H0:Hp}{B:Addr->Prop}{Hf Hf1:Hp}{e:KE KO}{D':Ends}(s:Same Hf Hf1)(h:PoY K E C j a H0 B Hf e D'):PoY K E C j a H0 B Hf1 e D':=by
 match e,h with
 |.ok (.nx sd') r',h=>exact fun σ' Hf' H' s' x=>h σ' Hf' H' (s.trans s') x
 |.ok (.rt d) r',h=>exact fun v Hf' H' s' x=>h v Hf' H' (s.trans s') x
 |.ex x r',h=>exact fun c dx Hf' H' s' x=>h c dx Hf' H' (s.trans s') x
theorem PoE.weak {K:PySem.W.Frag}{E:XK}{C:Addr}{j:Nat}{a:Addr}{H0:Hp}{B:Addr->Prop}{α β:Type}{R:Hp->α->β->Prop}{Hf Hf1:Hp}{sd:DSt}{σ:L2.St}{e:KE α}{Q:β->Hp->Prop}(s:Same Hf Hf1)(h:PoE K E C j a H0 B R Hf sd σ e Q):PoE K E C j a H0 B R Hf1 sd σ e Q:=by
 match e,h with
 |.ok x r',h=>exact fun v Hf' H' s' x=>h v Hf' H' (s.trans s') x
 |.ex x r',h=>exact fun c dx Hf' H' s' x=>h c dx Hf' H' (s.trans s') x
theorem PoE.then {K:PySem.W.Frag}{E:XK}{C:Addr}{j:Nat}{a:Addr}{H0:Hp}{B:Addr->Prop}{α β:Type}{R:Hp->α->β->Prop}{Hf:Hp}{sd:DSt}{σ:L2.St}{e:KE α}{k:α->Dk->KE KO}{D':Ends}{Q:β->Hp->Prop}(h:PoY K E C j a H0 B Hf (e.bind k) D')(n:∀x r' v Hf' H',Same Hf Hf'->KSt K C j a H0 B Hf' sd σ H' r'->R Hf' x v->PoY K E C j a H0 B Hf' (k x r') D'->Q v H'):PoE K E C j a H0 B R Hf sd σ e Q:=by
 match e,h with
 |.ok x r',h=>exact fun v Hf' H' s x' rv=>n x r' v Hf' H' s x' rv (PoY.weak s h)
 |.ex x r',h=>exact h
theorem PoE.thenE {K:PySem.W.Frag}{E:XK}{C:Addr}{j:Nat}{a:Addr}{H0:Hp}{B:Addr->Prop}{α β γ δ:Type}{R:Hp->α->β->Prop}{T:Hp->γ->δ->Prop}{Hf:Hp}{sd:DSt}{σ:L2.St}{e:KE α}{k:α->Dk->KE γ}{Q':δ->Hp->Prop}{Q:β->Hp->Prop}(h:PoE K E C j a H0 B T Hf sd σ (e.bind k) Q')(n:∀x r' v Hf' H',Same Hf Hf'->KSt K C j a H0 B Hf' sd σ H' r'->R Hf' x v->PoE K E C j a H0 B T Hf' sd σ (k x r') Q'->Q v H'):PoE K E C j a H0 B R Hf sd σ e Q:=by
 match e,h with
 |.ok x r',h=>exact fun v Hf' H' s x' rv=>n x r' v Hf' H' s x' rv (PoE.weak s h)
 |.ex x r',h=>exact h
theorem PoE.dat {K:PySem.W.Frag}{E:XK}{C:Addr}{j:Nat}{a:Addr}{H0:Hp}{B:Addr->Prop}{Hf H:Hp}{sd:DSt}{σ:L2.St}{r:Dk}{m:M D}{Q:VK}(x:KSt K C j a H0 B Hf sd σ H r)(h:PoE K E C j a H0 B (rD K) Hf sd σ (.of m r) Q):Po K E (rV K) Hf H m Q:=by
 match m,h with
 |.ok d,h=>exact fun v Hf' H' g rv=>h v Hf' H' g.fz (x.gr g) rv
 |.ex z,h=>exact fun c dx Hf' H' g rv=>h c dx Hf' H' g.fz (x.gr g).fin rv
theorem PoE.datB {K:PySem.W.Frag}{E:XK}{C:Addr}{j:Nat}{a:Addr}{H0:Hp}{B:Addr->Prop}{Hf H:Hp}{sd:DSt}{σ:L2.St}{r:Dk}{m:M Bool}{Q:Bool->Hp->Prop}(x:KSt K C j a H0 B Hf sd σ H r)(h:PoE K E C j a H0 B rB Hf sd σ (.of m r) Q):Po K E rQ Hf H m Q:=by
 match m,h with
 |.ok d,h=>exact fun v Hf' H' g rv=>h v Hf' H' g.fz (x.gr g) rv
 |.ex z,h=>exact fun c dx Hf' H' g rv=>h c dx Hf' H' g.fz (x.gr g).fin rv
section
variable {X:Cx} {E:XK} {C:Addr} {j:Nat} {e:Expr} {pos pos':Pos}
def kD (f:DSt->M D)(sd:DSt)(r:Dk):KE D:=.of (f sd) r
def kB (f:DSt->M Bool)(sd:DSt)(r:Dk):KE Bool:=.of (f sd) r
theorem Qa {f:DSt->M D}(h:PEd X E e f):PEy X E C j e (kD f):=by
 obtain⟨t,pt,q⟩:=h
 exact⟨t,pt,fun a H0 B Hf sd σ H r Q x h=>q H0 B Hf sd σ H Q x.sr (h.dat x)⟩
theorem pty_dat {f:DSt->M Bool}(h:PTd X E e f):PTy X E C j e (kB f):=by
 obtain⟨t,pt,q⟩:=h
 exact⟨t,pt,fun a H0 B Hf sd σ H r Q x h=>q H0 B Hf sd σ H Q x.sr (h.datB x)⟩
def kNil (sd:DSt)(r:Dk):KE KO:=.ok (.nx sd) r
def Qz (f g:DSt->Dk->KE KO)(sd:DSt)(r:Dk):KE KO:=(f sd r).bind fun o r'=>match o with
 |.nx sd'=>g sd' r'
 |.rt d=>.ok (.rt d) r'
theorem psy_nil:PSsy X E C j [] kNil:=⟨_,pss_nil,fun a H0 B Hf sd σ H r D' x h=>h σ Hf H (Same.refl _) x⟩
theorem Qy {st:Stmt}{g:DSt->Dk->KE KO}(h:PSy X E C j st g):PSsy X E C j [st] g:=by
 obtain⟨t,pt,q⟩:=h
 exact⟨t,pss_one pt,q⟩
theorem Z0 {st:Stmt}{rest:List Stmt}{f g:DSt->Dk->KE KO}(h:PSy X E C j st f)(h2:PSsy X E C j rest g):PSsy X E C j (st::rest) (Qz f g):=by
 obtain⟨t,pt,q⟩:=h
 obtain⟨t2,pt2,q2⟩:=h2
 refine⟨_,pss_cons pt pt2,fun a H0 B Hf sd σ H r D' x h=>?_⟩
 refine q a H0 B Hf sd σ H r _ x ?_
 unfold Qz at h
 match ef:f sd r,h with
 |.ok (.nx sd') r',h=>exact fun σ' Hf' H' s x'=>q2 a H0 B Hf' sd' σ' H' r' D' x' (PoY.weak s h)
 |.ok (.rt d) r',h=>exact h
 |.ex z r',h=>exact h
def Q5 (i:Nat)(g:DSt->Dk->KE D)(sd:DSt)(r:Dk):KE KO:=(g sd r).bind fun d r'=>.ok (.nx (sd.set i (some (.im d)))) r'
theorem Yg (i:Nat){x:Str}{g:DSt->Dk->KE D}(hN:X.N.Nodup)(he:PEy X E C j e g)(h0:i≠j:=by decide)(hi:X.N[i]?=some x:=by rfl)(hx:Loc X.env.scope x:=by first|exact Or.inl rfl|exact Or.inr rfl)(hs:swapsWith e (some (.Name x pos')) pos.line X.env=pure false:=by rfl)(hf:X.fn x=true\/X.env.scope.names.lookup x=some .local:=by first|exact .inl rfl|exact .inr rfl|assumption):PSy X E C j (.Assign [.Name x pos'] e pos) (Q5 i g):=by
 obtain⟨t,pt,q⟩:=he
 refine⟨_,ps_set hN hi hx pt hs hf,fun a H0 B Hf sd σ H r D' x h=>?_⟩
 refine q a H0 B Hf sd σ H r _ x (PoE.then h fun d r' v Hf' H' s x' rv h'=>?_)
 exact h' _ Hf' H' (Same.refl _) (x'.set i h0 rv)
def kRet (g:DSt->Dk->KE D)(sd:DSt)(r:Dk):KE KO:=(g sd r).bind fun d r'=>.ok (.rt d) r'
theorem psy_ret {g:DSt->Dk->KE D}(he:PEy X E C j e g):PSy X E C j (.Return (some e) pos) (kRet g):=by
 obtain⟨t,pt,q⟩:=he
 refine⟨_,ps_ret pt,fun a H0 B Hf sd σ H r D' x h=>?_⟩
 refine q a H0 B Hf sd σ H r _ x (PoE.then h fun d r' v Hf' H' s x' rv h'=>?_)
 exact h' v Hf' H' (Same.refl _) x'.fin rv
def kIf (c:DSt->Dk->KE Bool)(f g:DSt->Dk->KE KO)(sd:DSt)(r:Dk):KE KO:=(c sd r).bind fun b r'=>if b then f sd r' else g sd r'
theorem psy_if {c:Expr}{xs ys:List Stmt}{k:DSt->Dk->KE Bool}{f g:DSt->Dk->KE KO}(hc:PTy X E C j c k)(h:PSsy X E C j xs f)(h2:PSsy X E C j ys g):PSy X E C j (.If c xs ys pos) (kIf k f g):=by
 obtain⟨t,pt,q⟩:=hc
 obtain⟨t1,pt1,q1⟩:=h
 obtain⟨t2,pt2,q2⟩:=h2
 refine⟨_,ps_if pt pt1 pt2,fun a H0 B Hf sd σ H r D' x h=>?_⟩
 refine q a H0 B Hf sd σ H r _ x (PoE.then h fun b r' v Hf' H' s x' rv h'=>?_)
 subst rv
 cases b with
 |true=>exact q1 a H0 B Hf' sd σ H' r' D' x' h'
 |false=>exact q2 a H0 B Hf' sd σ H' r' D' x' h'
def kHall (_:DSt)(r:Dk):KE D:=.ok r.hall r
theorem pey_hall {vn:Str}{p:Pos}(cl:Cls X.K C) (na:NoAttr X.K C "hall") (hN:X.N[j]?=some vn:=by rfl) (hv:Vis X.env.scope vn:=by first|exact Or.inl rfl|exact Or.inr (Or.inl rfl)|exact Or.inr (Or.inr rfl)) (hd:(vn==("__debug__" : Str))=false:=by decide)
  (hcd:(vn==("__classdict__" : Str))=false:=by decide) (hb:attributeBase (.Name vn p) "hall" X.env (eval (.Name vn p) X.env)=eval (.Name vn p) X.env:=by rfl):PEy X E C j (.Attribute (.Name vn p) "hall" pos) kHall:=by
 refine⟨_,pe_fld (Z8 hN hv hd hcd) hb,fun a H0 B Hf sd σ H r Q x h=>?_⟩
 obtain⟨p,e0,dx,vh,ys,e1,e2,e3,e4,e5,e6⟩:=x.at_
 exact⟨.ref a,x.sj,a,C,dx,_,vh,rfl,e1,cl,na,rfl,h vh Hf H (Same.refl _) x e2⟩
end
def rm2 (H:Hp)(a p:Addr):Hp:=rmA (rmA H a) p
theorem rm2_same (H:Hp)(a p:Addr):Same (rm2 H a p) H:=fun b u q=>rmA_same H a b u (rmA_same _ p b u q)
theorem rm2_a (H:Hp)(a p:Addr):rm2 H a p a=none:=by
 cases q:rm2 H a p a with
 |none=>rfl
 |some u=>have:=rmA_same _ p a u q;rw[rmA_at] at this;cases this
theorem rm2_p (H:Hp)(a p:Addr):rm2 H a p p=none:=rmA_at _ p
theorem rm2_ne {H:Hp}{a p b:Addr}(h:b≠a)(h2:b≠p):rm2 H a p b=H b:=(rmA_ne h2).trans (rmA_ne h)
abbrev bn2 (H:Hp)(a p:Addr)(Hf:Hp):Addr->Prop:=fun b=>Lv (rm2 H a p) b/\Hf b=none
def PoF2 (K:PySem.W.Frag)(C a p:Addr)(Hf H:Hp)(e:KE D)(Q:VK)(E:XK):Prop:=match e with
 |.ok d r'=>∀v Hf' H',Same Hf Hf'->KEnd K C a (rm2 H a p) (bn2 H a p Hf) Hf' H' r'->Rep K Hf' d v->Q v H'
 |.ex x r'=>∀c dx Hf' H',Same Hf Hf'->KEnd K C a (rm2 H a p) (bn2 H a p Hf) Hf' H' r'->RepX K Hf' H' x c dx->E c dx H'
 |.bad=>False
def spY (K:PySem.W.Frag)(C:Addr)(F:Dk->List D->KE D):Sp:=fun vs H Q E=>∃Hf a p r ds rest,vs=.ref a::rest/\Same Hf H/\Hf a=none/\DkAt K C Hf H a p r/\Reps K Hf ds rest/\PoF2 K C a p Hf H (F r ds) Q E
def endY (e:KE KO):KE D:=match e with
 |.ok (.rt d) r=>.ok d r
 |.ok (.nx _) _=>.bad
 |.ex x r=>.ex x r
 |.bad=>.bad
def fnY (n m:Nat)(g:DSt->Dk->KE KO)(r:Dk)(ds:List D):KE D:=if ds.length=n then endY (g (none::(ds.map (fun d=>some (S.im d))++List.replicate m none)) r) else .bad
theorem sr_startY {K:PySem.W.Frag}{N:List Str}{C:Addr}{Hf H:Hp}{r:Dk}{ds:List D}{a p:Addr}{vs:List V}{m:Nat}(e:Same Hf H)(ea:Hf a=none)(da:DkAt K C Hf H a p r)(rs:Reps K Hf ds vs)(hN:N.length=ds.length+1+m) :
  KSt K C 0 a (rm2 H a p) (bn2 H a p Hf) Hf (none::(ds.map (fun d=>some (S.im d))++List.replicate m none)) (L2.Xe N (.ref a::vs)) H r:=by
 have hlen:=rs.length
 have es:L2.Xe N (V.ref a::vs)=some (V.ref a)::(vs.map some++List.replicate m none):=by
  unfold L2.Xe
  rw[List.map_cons,List.cons_append,show N.length - (V.ref a::vs).length=m by rw[List.length_cons];lia]
 rw[es]
 have tl:∀(i:Nat) (t:S),(none::(ds.map (fun d=>some (S.im d))++List.replicate m none))[i]?=some (some t)->t.own=false/\∃v,(some (V.ref a)::(vs.map some++List.replicate m none))[i]?=some (some v)/\RepS K Hf t v:=fun i t h=>by
  cases i with
  |zero=>rw[List.getElem?_cons_zero] at h;cases h
  |succ i =>
   rw[List.getElem?_cons_succ] at h ⊢
   by_cases hl:i<ds.length
   ·rw[List.getElem?_append_left (by simpa using hl),List.getElem?_map] at h
    cases q:ds[i]? with
    |none=>rw[q] at h;cases h
    |some d =>
     rw[q] at h
     cases h
     obtain⟨y,e1,e2⟩:=rs.get q
     have:i<vs.length:=(List.getElem?_eq_some_iff.mp e1).1
     exact⟨rfl,y,by rw[List.getElem?_append_left (by simpa using this),List.getElem?_map,e1];rfl,e2⟩
   ·rw[List.getElem?_append_right (by simpa using hl),List.getElem?_replicate] at h
    split at h<;>cases h
 refine⟨⟨e,rm2_same H a p,fun _ h=>h.2,fun _ h=>h.1,by simp[hlen],fun i t h _=>(tl i t h).2,fun i t h ho=>?_,fun i j t u q hij h ho h' ho' _ _=>?_⟩,rfl,rm2_a H a p,ea,fun i t h=>(tl i t h).1,p,rm2_p H a p,da⟩
 ·rw[(tl i t h).1] at ho;cases ho
 ·rw[(tl i t h).1] at ho;cases ho
theorem fn_y {P:Program}{w:World}{K:PySem.W.Frag}{mg:Str->Option Value}{base:Heap}{x qual:Str}{st:Stmt}{f C:Addr}{fd:FuncData}{N ps:List Str}{k m n:Nat}{fb:DSt->Dk->KE KO}(F:Fun K x qual st f fd)(sc:FnScope N ps (Zg st))(hn:ps.length=n+1)(hN:N.length=n+1+m)(hbody:∀(cdv:Value) (A:Around) (outer:List Env) (s:Shared) (H:Hp) (E:XK),Room k (A.deeper (envOfC qual (Zg st) s.heap.objs.size f cdv)) ->
   PSsy (cxOf (CX1 P w) P w K mg base N qual (Zg st) f cdv A outer s H E) E C 0 (Z7 st) fb):FnOk P w K mg base (CX1 P w) (k+1) f fd ps (spY K C (fnY n m fb)):=by
 obtain⟨oc,od,kV,doc,pm,an,cdv,ct,osl,rfl,lk,hcd⟩:=F.ex
 refine fn_of lk hcd sc (fun vs H Q E h=>?_) (fun A outer s H vs Q E hr h=>?_)
 ·obtain⟨Hf,a,p,r,ds,rest,rfl,e,ea,da,rs,hF⟩:=h
  unfold fnY at hF
  split at hF
  ·rename_i hl
   rw[List.length_cons,<-rs.length,hl,hn]
  ·exact hF.elim
 ·obtain⟨Hf,a,p,r,ds,rest,rfl,e,ea,da,rs,q⟩:=h
  obtain⟨t,pt,qt⟩:=hbody cdv A outer s H E hr
  unfold fnY at q
  split at q
  ·rename_i hl
   refine⟨t,pt,qt a _ _ Hf _ (L2.Xe N (.ref a::rest)) H r _ (sr_startY (N:=N) (m:=m) e ea da rs (by lia)) ?_⟩
   generalize fb (none::(ds.map (fun d=>some (S.im d))++List.replicate m none)) r=ro at q
   match ro,q with
   |.ok (.rt d) r',q=>exact fun v Hf' H' s x rv=>q v Hf' H' s x rv
   |.ex z r',q=>exact fun c dx Hf' H' s x rv=>q c dx Hf' H' s x rv
  ·exact q.elim
theorem KSt.back {K:PySem.W.Frag}{C a p:Addr}{j:Nat}{H0:Hp}{B:Addr->Prop}{Hf H Hf' H':Hp}{sd:DSt}{σ:L2.St}{r r':Dk}(x:KSt K C j a H0 B Hf sd σ H r)(h0:H0 p=none)(s:Same Hf Hf')(e:KEnd K C a (rm2 H a p) (bn2 H a p Hf) Hf' H' r'):KSt K C j a H0 B Hf' sd σ H' r':=by
 have sr:=x.sr
 have keep:∀b u,H0 b=some u->rm2 H a p b=some u:=fun b u q=>by
  rw[rm2_ne (Zk q x.h0) (Zk q h0)]
  exact sr.all b u q
 obtain⟨p',e0,d⟩:=e.at_
 refine⟨⟨e.fin.sub,fun b u q=>e.fin.all b u (keep b u q),fun b hb=>e.fin.ban b ⟨?_,sr.ban b hb⟩,sr.bt,sr.len,fun i t e1 e2=>?_,fun i t e1 o=>?_,fun i j t u q hij e1 o1 _ _ _ _=>?_⟩,x.sj,x.h0,e.hf,x.im,p',?_,d⟩
 ·obtain⟨o,ho,hn⟩:=sr.bt b hb
  exact⟨o,keep b o ho,hn⟩
 ·obtain⟨v,e3,e4⟩:=sr.imS i t e1 e2
  exact⟨v,e3,RepS.mono s e4⟩
 ·rw[x.im i t e1] at o;cases o
 ·rw[x.im i t e1] at o1;cases o1
 ·cases q:H0 p' with
  |none=>rfl
  |some u=>rw[keep _ _ q] at e0;cases e0
structure ClY (P:Program) (w:World) (K:PySem.W.Frag) (mg:Str->Option Value) (base:Heap) (C:Addr) (n:Nat) (x:Str) (ps:List Str) (F:Dk->List D->KE D):Prop where
 ex:∃f fd,FnOk P w K mg base (CX1 P w) n f fd ps (spY K C F)/\Binds K fd ps []/\PySem.W.keepIn K (.ref f)=true/\mg x=some (.ref f)/\PySem.W.nsIn K mainGlobals x=some (some (.ref f))
section
variable {X:Cx} {E:XK} {C:Addr} {j:Nat} {e:Expr} {pos pos' p p2:Pos}
theorem PoE.call {a pp:Addr}{H0:Hp}{B:Addr->Prop}{Hf H:Hp}{sd:DSt}{σ:L2.St}{r:Dk}{g:KE D}{Q:VK}(x:KSt X.K C j a H0 B Hf sd σ H r)(h0:H0 pp=none)(h:PoE X.K E C j a H0 B (rD X.K) Hf sd σ g Q):PoF2 X.K C a pp Hf H g Q E:=by
 match g,h with
 |.ok d r',h=>exact fun v Hf' H' s e rv=>h v Hf' H' s (x.back h0 s e) rv
 |.ex z r',h=>exact fun c dx Hf' H' s e rv=>h c dx Hf' H' s (x.back h0 s e).fin rv
def Xb (F:Dk->List D->KE D)(fs:DSt->M (List D))(sd:DSt)(r:Dk):KE D:=(KE.of (fs sd) r).bind fun ds r'=>F r' ds
theorem pey_call {k:Nat}{ps:List Str}{F:Dk->List D->KE D}{x vn:Str}{es:List Expr}{fs:DSt->M (List D)}(c:ClY X.prog X.w X.K X.mg X.base C k x ps F)(hr:Room k X.A)(ho:Xl (CX1 X.prog X.w) X E)(ha:PAd X E es fs)(hN:X.N[j]?=some vn:=by rfl)(hv:Vis X.env.scope vn:=by first|exact Or.inl rfl|exact Or.inr (Or.inl rfl)|exact Or.inr (Or.inr rfl)) (hd:(vn==("__debug__" : Str))=false:=by decide) (hcd:(vn==("__classdict__" : Str))=false:=by decide)
  (hg:Gl X x:=by rfl) (hdb:(x==("__debug__" : Str))=false:=by decide) (he:starEach (.Name vn p2::es) X.env=(false,eval (.Name vn p2) X.env)::starEach es X.env:=by rfl) (hpl:(backTo pos (starEach es X.env)).any (·.1)=false:=by rfl) :
  PEy X E C j (.Call (.Name x p) (.Name vn p2::es) [] pos) (Xb F fs):=by
 obtain⟨f,fd,G,b,kp,m,_⟩:=c.ex
 obtain⟨t,pt,qt⟩:=ha
 refine⟨_,pe_call (dvs:=[]) (E:=E) G hr hg m kp b .nil ho (Qp (Z8 hN hv hd hcd) pt he) hdb he hpl,fun a H0 B Hf sd σ H r Q x h=>?_⟩
 refine⟨.ref a,x.sj,qt H0 B Hf sd σ H _ x.sr ?_⟩
 unfold Xb at h
 match efs:fs sd,h with
 |.ok ds,h =>
  intro vs Hf1 H1 g rs
  have y:=x.gr g
  obtain⟨pp,e0,da⟩:=y.at_
  exact⟨Hf1,a,pp,r,ds,vs,List.append_nil _,y.sr.sub,y.hf,da,rs,PoE.call y e0 (PoE.weak g.fz (show PoE X.K E C j a H0 B (rD X.K) Hf sd σ (F r ds) Q from h))⟩
 |.ex z,h=>exact fun c dx Hf' H' g rv=>h c dx Hf' H' g.fz (x.gr g).fin rv
theorem pey_meth {pl:Sem Bool}{k:Nat}{f:Addr}{fd:FuncData}{ps:List Str}{F:Dk->List D->KE D}{m vn:Str}{e₁:Expr}{es:List Expr}{fs:DSt->M (List D)}{apos:Pos}(cl:Cls X.K C)(hm:Meth X.K C m f)(G:FnOk X.prog X.w X.K X.mg X.base (CX1 X.prog X.w) k f fd ps (spY X.K C F))(hb:Binds X.K fd ps [])(hr:Room k X.A)(ho:Xl (CX1 X.prog X.w) X E)(ha:PAd X E (e₁::es) fs)
  (hm1:m ≠ "hall" := by decide) (hm2:m ≠ "people" := by decide)
  (hN:X.N[j]?=some vn:=by rfl) (hv:Vis X.env.scope vn:=by first|exact Or.inl rfl|exact Or.inr (Or.inl rfl)|exact Or.inr (Or.inr rfl)) (hd:(vn==("__debug__" : Str))=false:=by decide) (hcd:(vn==("__classdict__" : Str))=false:=by decide)
  (hst:starEach (e₁::es) X.env=(false,eval e₁ X.env)::starEach es X.env:=by rfl) (hpl:(backTo pos (starEach es X.env)).any (·.1)=false:=by rfl)
  (ht:eval (.Call (.Attribute (.Name vn p) m apos) (e₁::es) [] pos) X.env=(do
   let ov <-eval (.Name vn p) X.env
   standAt apos.atName
   let (f,first) <-holding [ov] (getMethod ov m pl)
   callWith pos f first (backTo pos (starEach (e₁::es) X.env)) (backToKw pos (keywordEach [] X.env))):=by rfl) :
  PEy X E C j (.Call (.Attribute (.Name vn p) m apos) (e₁::es) [] pos) (Xb F fs):=by
 obtain⟨t,pt,qt⟩:=ha
 refine⟨_,pe_meth (dvs:=[]) (E:=E) (pl:=pl) (Z8 hN hv hd hcd) cl hm G hr hb .nil ho pt hst hpl ht,fun a H0 B Hf sd σ H r Q x h=>?_⟩
 obtain⟨p0,e0,dx,vh,ys,e1,_⟩:=id x.at_
 have hl:List.lookup m [(("hall" : Str),vh),("people", V.ref p0)]=none:=by
  have q1:(m==("hall" : Str))=false:=beq_eq_false_iff_ne.mpr hm1
  have q2:(m==("people" : Str))=false:=beq_eq_false_iff_ne.mpr hm2
  simp only[List.lookup,q1,q2]
 refine⟨.ref a,x.sj,a,dx,_,rfl,e1,hl,qt H0 B Hf sd σ H _ x.sr ?_⟩
 unfold Xb at h
 match efs:fs sd,h with
 |.ok ds,h =>
  intro vs Hf1 H1 g rs
  have y:=x.gr g
  obtain⟨pp,e0,da⟩:=y.at_
  exact⟨Hf1,a,pp,r,ds,vs++[],rfl,y.sr.sub,y.hf,da,by rw[List.append_nil];exact rs,PoE.call y e0 (PoE.weak g.fz (show PoE X.K E C j a H0 B (rD X.K) Hf sd σ (F r ds) Q from h))⟩
 |.ex z,h=>exact fun c dx Hf' H' g rv=>h c dx Hf' H' g.fz (x.gr g).fin rv
def kSetH (f:DSt->M D)(sd:DSt)(r:Dk):KE KO:=(KE.of (f sd) r).bind fun d r'=>.ok (.nx sd) ⟨d,r'.people⟩
theorem psy_setH {vn:Str}{f:DSt->M D}(cl:Cls X.K C) (na:NoAttr X.K C "hall") (he:PEd X E e f) (hN:X.N[j]?=some vn:=by rfl) (hv:Vis X.env.scope vn:=by first|exact Or.inl rfl|exact Or.inr (Or.inl rfl)|exact Or.inr (Or.inr rfl)) (hd:(vn==("__debug__" : Str))=false:=by decide)
  (hcd:(vn==("__classdict__" : Str))=false:=by decide) (hs:swapsWith e (some (.Attribute (.Name vn p) "hall" pos')) pos.line X.env=pure false:=by rfl):PSy X E C j (.Assign [.Attribute (.Name vn p) "hall" pos'] e pos) (kSetH f):=by
 obtain⟨t,pt,q⟩:=he
 refine⟨_,ps_fld (Z8 hN hv hd hcd) pt hs,fun a H0 B Hf sd σ H r D' x h=>?_⟩
 refine q H0 B Hf sd σ H _ x.sr (PoE.dat (r:=r) (E:=E) x (PoE.then h fun d r' v Hf' H' s x' rv h'=>?_))
 obtain⟨dx,fs,e1,e2,x2⟩:=x'.hall rv
 exact⟨.ref a,x.sj,a,C,dx,fs,rfl,e1,cl,na,e2,h' σ Hf' _ (Same.refl _) x2⟩
def kSetP (sd:DSt)(r:Dk):KE KO:=.ok (.nx sd) ⟨r.hall,[]⟩
theorem psy_setP {vn:Str}(cl:Cls X.K C) (na:NoAttr X.K C "people") (hN:X.N[j]?=some vn:=by rfl) (hv:Vis X.env.scope vn:=by first|exact Or.inl rfl|exact Or.inr (Or.inl rfl)|exact Or.inr (Or.inr rfl)) (hd:(vn==("__debug__" : Str))=false:=by decide)
  (hcd:(vn==("__classdict__" : Str))=false:=by decide) (hs:swapsWith (.Dict [] [] p2) (some (.Attribute (.Name vn p) "people" pos')) pos.line X.env=pure false:=by rfl):PSy X E C j (.Assign [.Attribute (.Name vn p) "people" pos'] (.Dict [] [] p2) pos) kSetP:=by
 refine⟨_,ps_fld (Z8 hN hv hd hcd) pe_dnewK hs,fun a H0 B Hf sd σ H r D' x h=>?_⟩
 intro pp hp
 obtain⟨dx,fs,e1,e2,x2⟩:=x.people hp
 exact⟨.ref a,x.sj,a,C,dx,fs,rfl,e1,cl,na,e2,h σ Hf _ (Same.refl _) x2⟩
def kRaise (c f:Str)(fs:DSt->M (List D))(sd:DSt)(r:Dk):KE KO:=(KE.of (fs sd) r).bind fun ds r'=>match ds with
 |[d]=>.ex ⟨c,[f],[d]⟩ r'
 |_=>.bad
end
section
variable {X:Cx} {E:XK} {C:Addr} {j:Nat} {e e1 e2:Expr} {pos pos' p p2 p3 np cpos:Pos}
theorem KSt.xd {K:PySem.W.Frag}{a:Addr}{H0:Hp}{B:Addr->Prop}{Hf H:Hp}{sd:DSt}{σ:L2.St}{r:Dk}(x:KSt K C j a H0 B Hf sd σ H r){dx:Addr}(h:H dx=none)(o:HO):KSt K C j a H0 B (L2.upd Hf dx o) sd σ (L2.upd H dx o) r/\Same Hf (L2.upd Hf dx o):=by
 have g:Gr Hf H (L2.upd Hf dx o) (L2.upd H dx o):=Gr.alloc x.sr.sub h _
 exact⟨x.gr g,g.fz⟩
theorem psy_raise {c f:Str}{es:List Expr}{fs:DSt->M (List D)}(x:Xr X.prog X.w X.K X.mg X.base c f)(o:Out X E)(hc:X.calm=true)(hr:Room 2 X.A)(ha:PAd X E (e::es) fs)(hg:Gl X c:=by rfl) (hdb:(c==("__debug__" : Str))=false:=by decide)
  (he:starEach (e::es) X.env=(false,eval e X.env)::starEach es X.env:=by rfl) (hpl:(backTo cpos (starEach es X.env)).any (·.1)=false:=by rfl):PSy X E C j (.Raise (some (.Call (.Name c np) (e::es) [] cpos)) none pos) (kRaise c f fs):=by
 obtain⟨C',_,_,_,_,ya,mc,ye,yp,yf,F,b,_,_,_⟩:=x.ex
 obtain⟨t,pt,q⟩:=ha
 refine⟨_,ps_raise o hc (xc_of ye) yp yf F hr b hg mc pt hdb he hpl,fun a H0 B Hf sd σ H r D' x h=>?_⟩
 refine q H0 B Hf sd σ H _ x.sr ?_
 unfold kRaise at h
 match efs:fs sd,h with
 |.ok [d],h =>
  intro vs Hf1 H1 g rs
  obtain⟨v,_,rfl,rv,rn⟩:=reps_cons.mp rs
  rw[reps_nil] at rn
  subst rn
  refine⟨v,rfl,fun dx hd=>?_⟩
  obtain⟨y,s⟩:=(x.gr g).xd hd (.xd [(f,v)])
  exact h (.ref C') (some dx) _ _ (g.fz.trans s) y.fin ⟨C',[v],rfl,ya,⟨Zn,rfl⟩,Reps.cons (rv.mono s) Reps.nil⟩
 |.ok [],h=>exact h.elim
 |.ok (_::_::_),h=>exact h.elim
 |.ex z,h=>exact fun c dx Hf' H' g rv=>h c dx Hf' H' g.fz (x.gr g).fin rv
def kRaise0 (c:Str)(_:DSt)(r:Dk):KE KO:=.ex ⟨c,[],[]⟩ r
theorem psy_raise0 {c:Str}(x:Xq X.K X.mg c)(o:Out X E)(hc:X.calm=true)(hg:Gl X c:=by rfl) (hdb:(c==("__debug__" : Str))=false:=by decide):PSy X E C j (.Raise (some (.Call (.Name c np) [] [] cpos)) none pos) (kRaise0 c):=by
 obtain⟨C',ya,mc,ye,yp⟩:=x.ex
 refine⟨_,ps_raise0 o hc (xp_of ye) yp hg mc hdb,fun a H0 B Hf sd σ H r D' x h=>?_⟩
 exact h (.ref C') none Hf H (Same.refl _) x.fin ⟨C',[],rfl,ya,⟨rfl,rfl⟩,Reps.nil⟩
def kIn (f:DSt->M D)(sd:DSt)(r:Dk):KE Bool:=(KE.of (f sd) r).bind fun d r'=>match d with
 |.str k=>.ok (hasD r'.people (.inr k)) r'
 |_=>.bad
theorem RepKV.has {K:PySem.W.Frag}{H:Hp}{kvs:List (Key×D)}{ys:List (Key×V)}(r:RepKV K H kvs ys)(k:Key):(valV ys k).isSome=hasD kvs k:=by
 unfold hasD
 rw[r.any k]
 unfold valV
 induction ys with
 |nil=>rfl
 |cons q qs ih =>
  clear r ih
  rw[Option.isSome_map]
  rw[Bool.eq_iff_iff,List.find?_isSome,List.any_eq_true]
theorem pty_in {vn:Str}{f:DSt->M D}{p4:Pos}(hu:X.A.units+1<cLine)(cl:Cls X.K C) (na:NoAttr X.K C "people") (he:PEd X E e f) (hN:X.N[j]?=some vn:=by rfl) (hv:Vis X.env.scope vn:=by first|exact Or.inl rfl|exact Or.inr (Or.inl rfl)|exact Or.inr (Or.inr rfl)) (hd:(vn==("__debug__" : Str))=false:=by decide)
  (hcd:(vn==("__classdict__" : Str))=false:=by decide) (hb:attributeBase (.Name vn p) "people" X.env (eval (.Name vn p) X.env)=eval (.Name vn p) X.env:=by rfl) (hm:behindInMarks .In (.Attribute (.Name vn p) "people" p4)=false:=by first|rfl|with_unfolding_all rfl) :
  PTy X E C j (.Compare e [.In] [.Attribute (.Name vn p) "people" p4] pos) (kIn f):=by
 obtain⟨t,pt,q⟩:=he
 refine⟨_,pt_cmp (pc_din hu pt (pe_fld (Z8 hN hv hd hcd) hb)) hm,fun a H0 B Hf sd σ H r Q x h=>?_⟩
 refine q H0 B Hf sd σ H _ x.sr ?_
 unfold kIn at h
 match ef:f sd,h with
 |.ok (.str k),h =>
  intro v Hf1 H1 g rv
  have y:=x.gr g
  obtain⟨pp,e0,dx,vh,ys,e1,e2,e3,e4,e5,e6⟩:=id y.at_
  refine⟨.ref a,x.sj,a,C,dx,_,.ref pp,rfl,e1,cl,na,rfl,pp,valV ys (.inr k),rfl,.inl ⟨ys,.inr k,.inl e3,rep_str.mp rv,rfl⟩,_,rfl,?_⟩
  exact h _ Hf1 H1 g.fz y (e4.has _).symm
 |.ok .non,h=>exact h.elim
 |.ok (.bl _),h=>exact h.elim
 |.ok (.int _),h=>exact h.elim
 |.ok (.tup _),h=>exact h.elim
 |.ok (.lst _),h=>exact h.elim
 |.ex z,h=>exact fun c dx Hf' H' g rv=>h c dx Hf' H' g.fz (x.gr g).fin rv
def kLen (_:DSt)(r:Dk):KE D:=.ok (.int r.people.length) r
theorem pey_len {vn:Str}{p4:Pos}(cl:Cls X.K C) (na:NoAttr X.K C "people") (z:X.mg "len" = none) (hN:X.N[j]?=some vn:=by rfl) (hv:Vis X.env.scope vn:=by first|exact Or.inl rfl|exact Or.inr (Or.inl rfl)|exact Or.inr (Or.inr rfl)) (hd:(vn==("__debug__" : Str))=false:=by decide)
  (hcd:(vn==("__classdict__" : Str))=false:=by decide) (hb:attributeBase (.Name vn p) "people" X.env (eval (.Name vn p) X.env)=eval (.Name vn p) X.env:=by rfl) (hg:Gl X "len" := by rfl)
  (he:starEach [.Attribute (.Name vn p) "people" p4] X.env=(false,eval (.Attribute (.Name vn p) "people" p4) X.env)::starEach [] X.env:=by rfl) (hpl:(backTo pos (starEach [] X.env)).any (·.1)=false:=by rfl) :
  PEy X E C j (.Call (.Name "len" p2) [.Attribute (.Name vn p) "people" p4] [] pos) kLen:=by
 refine⟨_,pe_callB (id := "len") call_lenD hg z rfl (Qp (pe_fld (Z8 hN hv hd hcd) hb) Y7 he) (by decide) (by decide) he hpl,fun a H0 B Hf sd σ H r Q x h=>?_⟩
 obtain⟨pp,e0,dx,vh,ys,e1,e2,e3,e4,e5,e6⟩:=id x.at_
 refine⟨.ref a,x.sj,a,C,dx,_,.ref pp,rfl,e1,cl,na,rfl,pp,ys,rfl,e3,?_⟩
 have:=h (.int ys.length) Hf H (Same.refl _) x (by rw[RepKV.length e4];exact rep_int.mpr rfl)
 exact this
def kPut (fk fv:DSt->M D)(sd:DSt)(r:Dk):KE KO:=(KE.of (fv sd) r).bind fun v r1=>(KE.of (fk sd) r1).bind fun k r'=>match k with
 |.str k=>if r'.people.length<=1000000 then .ok (.nx sd) ⟨r'.hall,putD r'.people (.inr k) v⟩ else .bad
 |_=>.bad
theorem psy_put {vn:Str}{fk fv:DSt->M D}{p4 p5:Pos}{value:Expr}(hu:X.A.units+1<cLine)(cl:Cls X.K C) (na:NoAttr X.K C "people") (hk:PEd X E e fk) (hv':PEd X E value fv) (hN:X.N[j]?=some vn:=by rfl) (hv:Vis X.env.scope vn:=by first|exact Or.inl rfl|exact Or.inr (Or.inl rfl)|exact Or.inr (Or.inr rfl)) (hd:(vn==("__debug__" : Str))=false:=by decide)
  (hcd:(vn==("__classdict__" : Str))=false:=by decide) (hb:attributeBase (.Name vn p) "people" X.env (eval (.Name vn p) X.env)=eval (.Name vn p) X.env:=by rfl)
  (hs:swapsWith value (some (.Subscript (.Attribute (.Name vn p) "people" p4) e p5)) pos.line X.env=pure false:=by rfl) :
  PSy X E C j (.Assign [.Subscript (.Attribute (.Name vn p) "people" p4) e p5] value pos) (kPut fk fv):=by
 obtain⟨t,pt,q⟩:=hk
 obtain⟨t2,pt2,q2⟩:=hv'
 refine⟨_,ps_dput hu (pe_fld (Z8 hN hv hd hcd) hb) pt pt2 hs,fun a H0 B Hf sd σ H r D' x h=>?_⟩
 refine q2 H0 B Hf sd σ H _ x.sr (PoE.dat (r:=r) (E:=E) x (PoE.then h fun d r' v Hf' H' s x' rv h'=>?_))
 obtain⟨pp,e0,dx,vh,ys,e1,e2,e3,e4,e5,e6⟩:=id x'.at_
 refine⟨.ref a,x'.sj,a,C,dx,_,.ref pp,rfl,e1,cl,na,rfl,?_⟩
 refine q H0 B Hf' sd σ H' _ x'.sr ?_
 match ef:fk sd,h' with
 |.ok (.str k),h' =>
  intro kv Hf1 H1 g rk
  have y:=x'.gr g
  have hh:PoY X.K E C j a H0 B Hf' (if r'.people.length<=1000000 then .ok (.nx sd) ⟨r'.hall,putD r'.people (.inr k) d⟩ else .bad) D':=h'
  split at hh
  ·rename_i hl
   have hl2:=RepKV.length e4
   refine⟨pp,_,rfl,.inl ⟨ys,.inr k,g.all _ _ e3,rep_str.mp rk,by rw[PySem.sizeLine_eq];lia,rfl⟩,?_⟩
   exact hh σ Hf1 _ g.fz (y.put e0 (g.all _ _ e3) (g.all _ _ e1) (e2.mono g.fz) (e4.mono g.fz) e5 (g.ban pp (lv_dk e3) e6) (rv.mono g.fz))
  ·exact hh.elim
 |.ok .non,h'=>exact h'.elim
 |.ok (.bl _),h'=>exact h'.elim
 |.ok (.int _),h'=>exact h'.elim
 |.ok (.tup _),h'=>exact h'.elim
 |.ok (.lst _),h'=>exact h'.elim
 |.ex z,h'=>exact fun c dx Hf2 H2 g rv=>h' c dx Hf2 H2 g.fz (x'.gr g).fin rv
def kIfE (c:DSt->Dk->KE Bool)(f g:DSt->Dk->KE D)(sd:DSt)(r:Dk):KE D:=(c sd r).bind fun b r'=>if b then f sd r' else g sd r'
theorem pey_if {c:Expr}{k:DSt->Dk->KE Bool}{f g:DSt->Dk->KE D}(hc:PTy X E C j c k)(h1:PEy X E C j e1 f)(h2:PEy X E C j e2 g):PEy X E C j (.IfExp c e1 e2 pos) (kIfE k f g):=by
 obtain⟨tc,pc,qc⟩:=hc
 obtain⟨ta,pa,qa⟩:=h1
 obtain⟨tb,pb,qb⟩:=h2
 refine⟨_,pe_ifExp pc pa pb,fun a H0 B Hf sd σ H r Q x h=>?_⟩
 refine qc a H0 B Hf sd σ H r _ x (PoE.thenE h fun b r' v Hf' H' s x' rv h'=>?_)
 subst rv
 cases b with
 |true=>exact qa a H0 B Hf' sd σ H' r' Q x' h'
 |false=>exact qb a H0 B Hf' sd σ H' r' Q x' h'
def kTV (f:DSt->Dk->KE D)(sd:DSt)(r:Dk):KE Bool:=(f sd r).bind fun d r'=>match d with
 |.bl b=>.ok b r'
 |_=>.bad
theorem pty_val {f:DSt->Dk->KE D}(h:PEy X E C j e f)(he:∀whole,isTrue e X.env whole=(do let v <-whole;standAt e.pos;holding [v] (truthy v)):=by intro _;rfl):PTy X E C j e (kTV f):=by
 obtain⟨t,pt,q⟩:=h
 refine⟨_,pt_val pt he,fun a H0 B Hf sd σ H r Q x h=>?_⟩
 refine q a H0 B Hf sd σ H r _ x (PoE.thenE h fun d r' v Hf' H' s x' rv h'=>?_)
 cases d with
 |bl b=>exact⟨b,rep_bl.mp rv,h' b Hf' H' (Same.refl _) x' rfl⟩
 |_=>exact h'.elim
def kTN (f:DSt->Dk->KE Bool)(sd:DSt)(r:Dk):KE Bool:=(f sd r).bind fun b r'=>.ok (!b) r'
theorem pty_not {f:DSt->Dk->KE Bool}(h:PTy X E C j e f):PTy X E C j (.UnaryOp .Not e pos) (kTN f):=by
 obtain⟨t,pt,q⟩:=h
 refine⟨_,pt_not pt,fun a H0 B Hf sd σ H r Q x h=>?_⟩
 refine q a H0 B Hf sd σ H r _ x (PoE.thenE h fun b r' v Hf' H' s x' rv h'=>?_)
 subst rv
 exact h' (!b) Hf' H' (Same.refl _) x' rfl
def PWy (X:Cx)(E:XK)(C:Addr)(j:Nat)(e:Expr)(g:DSt->Dk->KE Bool):Prop :=
 ∃t:TT,PW X e t/\∀(a:Addr) (H0:Hp) (B:Addr->Prop) (Hf:Hp) (sd:DSt) (σ:L2.St) (H:Hp) (r:Dk) (Q:Bool->Hp->Prop),KSt X.K C j a H0 B Hf sd σ H r->PoE X.K E C j a H0 B rB Hf sd σ (g sd r) Q->t σ H Q
theorem PWy.pt {f:DSt->Dk->KE Bool}(h:PWy X E C j e f):PTy X E C j e f:=by
 obtain⟨t,p,q⟩:=h
 exact⟨t,p.pt,q⟩
theorem pwy_and1 {f:DSt->Dk->KE Bool}(h:PTy X E C j e f):PWy X E C j (.BoolOp .And [e] pos) f:=by
 obtain⟨t,p,q⟩:=h
 exact⟨t,pw_and1 p,q⟩
theorem pwy_or1 {f:DSt->Dk->KE Bool}(h:PTy X E C j e f):PWy X E C j (.BoolOp .Or [e] pos) f:=by
 obtain⟨t,p,q⟩:=h
 exact⟨t,pw_or1 p,q⟩
def kTA (f g:DSt->Dk->KE Bool)(sd:DSt)(r:Dk):KE Bool:=(f sd r).bind fun b r'=>if b then g sd r' else .ok false r'
def kTO (f g:DSt->Dk->KE Bool)(sd:DSt)(r:Dk):KE Bool:=(f sd r).bind fun b r'=>if b then .ok true r' else g sd r'
theorem pwy_and {rest:List Expr}{f g:DSt->Dk->KE Bool}(h:PTy X E C j e1 f)(h2:PWy X E C j (.BoolOp .And (e2::rest) pos) g):PWy X E C j (.BoolOp .And (e1::e2::rest) pos) (kTA f g):=by
 obtain⟨t,p,q⟩:=h
 obtain⟨t2,p2,q2⟩:=h2
 refine⟨_,pw_and p p2,fun a H0 B Hf sd σ H r Q x h=>?_⟩
 refine q a H0 B Hf sd σ H r _ x (PoE.thenE h fun b r' v Hf' H' s x' rv h'=>?_)
 subst rv
 cases b with
 |true=>rw[if_pos rfl] at h' ⊢;exact q2 a H0 B Hf' sd σ H' r' Q x' h'
 |false=>rw[if_neg Bool.false_ne_true] at h' ⊢;exact h' false Hf' H' (Same.refl _) x' rfl
theorem pwy_or {rest:List Expr}{f g:DSt->Dk->KE Bool}(h:PTy X E C j e1 f)(h2:PWy X E C j (.BoolOp .Or (e2::rest) pos) g):PWy X E C j (.BoolOp .Or (e1::e2::rest) pos) (kTO f g):=by
 obtain⟨t,p,q⟩:=h
 obtain⟨t2,p2,q2⟩:=h2
 refine⟨_,pw_or p p2,fun a H0 B Hf sd σ H r Q x h=>?_⟩
 refine q a H0 B Hf sd σ H r _ x (PoE.thenE h fun b r' v Hf' H' s x' rv h'=>?_)
 subst rv
 cases b with
 |true=>rw[if_pos rfl] at h' ⊢;exact h' true Hf' H' (Same.refl _) x' rfl
 |false=>rw[if_neg Bool.false_ne_true] at h' ⊢;exact q2 a H0 B Hf' sd σ H' r' Q x' h'
def kOp (g:D->D->M D)(fa fb:DSt->Dk->KE D)(sd:DSt)(r:Dk):KE D:=(fa sd r).bind fun x r1=>(fb sd r1).bind fun y r2=>.of (g x y) r2
theorem pty_cmp {op:CmpOp}{g:D->D->M D}{fa fb:DSt->Dk->KE D}(ho:OpD X E (compareOp op) g)(ha:PEy X E C j e1 fa)(hb:PEy X E C j e2 fb)(hm:behindInMarks op e2=false):PTy X E C j (.Compare e1 [op] [e2] pos) (kTV (kOp g fa fb)):=by
 obtain⟨rr,hr,qr⟩:=ho
 obtain⟨ta,pa,qa⟩:=ha
 obtain⟨tb,pb,qb⟩:=hb
 refine⟨_,pt_cmpR hr pa pb hm,fun a H0 B Hf sd σ H r Q x h=>?_⟩
 have h:PoE X.K E C j a H0 B rB Hf sd σ ((fa sd r).bind fun x r1=>((fb sd r1).bind fun y r2=>.of (g x y) r2).bind fun d r'=>match d with | .bl b=>.ok b r'|_=>.bad) Q:=by
  unfold kTV kOp at h
  revert h
  cases fa sd r<;>exact fun h=>h
 refine qa a H0 B Hf sd σ H r _ x (PoE.thenE h fun dx r1 v1 Hf1 H1 s1 x1 rv1 h1=>?_)
 have h1:PoE X.K E C j a H0 B rB Hf1 sd σ ((fb sd r1).bind fun y r2=>(KE.of (g dx y) r2).bind fun d r'=>match d with | .bl b=>.ok b r'|_=>.bad) Q:=by
  revert h1
  cases fb sd r1<;>exact fun h=>h
 refine qb a H0 B Hf1 sd σ H1 r1 _ x1 (PoE.thenE h1 fun dy r2 v2 Hf2 H2 s2 x2 rv2 h2=>?_)
 refine qr Hf2 H2 v1 v2 dx dy _ x2.sr.sub (Rep.mono s2 rv1) rv2 (PoE.dat (r:=r2) (E:=E) x2 (PoE.thenE h2 fun d r' v Hf' H' s x' rv h'=>?_))
 cases d with
 |bl b=>exact⟨b,rep_bl.mp rv,h' b Hf' H' (Same.refl _) x' rfl⟩
 |_=>exact h'.elim
def PAy (X:Cx)(E:XK)(C:Addr)(j:Nat)(es:List Expr)(g:DSt->Dk->KE (List D)):Prop :=
 ∃t:TA,PA X es t/\∀(a:Addr) (H0:Hp) (B:Addr->Prop) (Hf:Hp) (sd:DSt) (σ:L2.St) (H:Hp) (r:Dk) (Q:List V->Hp->Prop),KSt X.K C j a H0 B Hf sd σ H r->PoE X.K E C j a H0 B (fun Hf ds vs=>Reps X.K Hf ds vs) Hf sd σ (g sd r) Q->t σ H Q
def kaNil (_:DSt)(r:Dk):KE (List D):=.ok [] r
def kaCons (f:DSt->Dk->KE D)(fr:DSt->Dk->KE (List D))(sd:DSt)(r:Dk):KE (List D):=(f sd r).bind fun d r1=>(fr sd r1).bind fun ds r2=>.ok (d::ds) r2
theorem pay_nil:PAy X E C j [] kaNil:=⟨_,Y7,fun a H0 B Hf sd σ H r Q x h=>h [] Hf H (Same.refl _) x Reps.nil⟩
theorem pay_cons {es:List Expr}{f:DSt->Dk->KE D}{fr:DSt->Dk->KE (List D)}(ha:PEy X E C j e f)(hr:PAy X E C j es fr)(hs:starEach (e::es) X.env=(false,eval e X.env)::starEach es X.env:=by rfl):PAy X E C j (e::es) (kaCons f fr):=by
 obtain⟨ta,pa,qa⟩:=ha
 obtain⟨tr,pr,qr⟩:=hr
 refine⟨_,Qp pa pr hs,fun a H0 B Hf sd σ H r Q x h=>?_⟩
 refine qa a H0 B Hf sd σ H r _ x (PoE.thenE h fun d r1 v Hf1 H1 s1 x1 rv h1=>?_)
 refine qr a H0 B Hf1 sd σ H1 r1 _ x1 (PoE.thenE h1 fun ds r2 vs Hf2 H2 s2 x2 rs h2=>?_)
 exact h2 (v::vs) Hf2 H2 (Same.refl _) x2 (Reps.cons (Rep.mono s2 rv) rs)
def kCallN (F:List D->M S)(fs:DSt->Dk->KE (List D))(sd:DSt)(r:Dk):KE D:=(fs sd r).bind fun ds r'=>match F ds with
 |.ok (.im d)=>.ok d r'
 |_=>.bad
theorem pey_callN {k:Nat}{ps:List Str}{F:List D->M S}{x:Str}{es:List Expr}{fs:DSt->Dk->KE (List D)}(c:Cl X.prog X.w X.K X.mg X.base k x ps F)(hr:Room k X.A)(ha:PAy X E C j (e::es) fs)(hg:Gl X x:=by rfl) (hdb:(x==("__debug__" : Str))=false:=by decide) (he:starEach (e::es) X.env=(false,eval e X.env)::starEach es X.env:=by rfl) (hpl:(backTo pos (starEach es X.env)).any (·.1)=false:=by rfl) :
  PEy X E C j (.Call (.Name x p) (e::es) [] pos) (kCallN F fs):=by
 obtain⟨f,fd,G,b,kp,m⟩:=c.ex
 obtain⟨t,pt,qt⟩:=ha
 refine⟨_,pe_call (dvs:=[]) (E:=E0) G hr hg m kp b .nil pass0 pt hdb he hpl,fun a H0 B Hf sd σ H r Q x h=>?_⟩
 refine qt a H0 B Hf sd σ H r _ x (PoE.thenE h fun ds r1 vs Hf1 H1 s1 x1 rs h1=>?_)
 split at h1
 ·rename_i d eF
  refine⟨Hf1,ds,.im d,x1.sr.sub,by rw[List.append_nil];exact rs,eF,fun v Hf' H' g2 rv=>?_⟩
  exact h1 v Hf' H' g2.fz (x1.gr g2) rv
 ·exact h1.elim
def kLoop (i:Nat)(f:DSt->Dk->KE KO):List D->DSt->Dk->KE KO
 |[],sd,r=>.ok (.nx sd) r
 |d::ds,sd,r=>(f (sd.set i (some (.im d))) r).bind fun o r'=>match o with
  |.nx sd'=>kLoop i f ds sd' r'
  |.rt v=>.ok (.rt v) r'
def kFor (i:Nat)(fi:DSt->M (List D))(f:DSt->Dk->KE KO)(sd:DSt)(r:Dk):KE KO:=(KE.of (fi sd) r).bind fun ds r'=>kLoop i f ds sd r'
theorem psy_for {x:Str}{iter:Expr}{body:List Stmt}{fi:DSt->M (List D)}{f:DSt->Dk->KE KO}(i:Nat)(hp:PassesOwn (model X.prog X.w) X.A X.env X.xe)(hc:X.calm=true)(hi:PId X E (.Name x p) iter fi)(hN:X.N.Nodup)(hb:PSsy X E C j body f)(h0:i≠j:=by decide)(hii:X.N[i]?=some x:=by rfl)(hx:Loc X.env.scope x:=by first|exact Or.inl rfl|exact Or.inr rfl)(hf:X.fn x=true\/X.env.scope.names.lookup x=some .local:=by first|exact .inl rfl|exact .inr rfl|assumption)(hs:∀x,foldedSetIterable iter X.env x=pure x:=by intro _;rfl):PSy X E C j (.For (.Name x p) iter body [] pos) (kFor i fi f):=by
 obtain⟨wi,pw,qw⟩:=hi
 obtain⟨tb,pb,qb⟩:=hb
 refine⟨_,ps_for hp hc pw (pg_name hN hii hx hf) pb hs,fun a H0 B Hf sd σ H r D' x h=>?_⟩
 refine qw H0 B Hf sd σ H _ x.sr ?_
 unfold kFor at h
 match efi:fi sd,h with
 |.ex z,h=>exact fun c dx Hf' H' g rv=>h c dx Hf' H' g.fz (x.gr g).fin rv
 |.ok ds,h =>
  intro J Hf1 H1 g1 J1
  have x1:=x.gr g1
  have h:PoY X.K E C j a H0 B Hf (kLoop i f ds sd r) D':=h
  refine⟨fun k m σ' H'=>m=ds.length - k/\∃Hf' sd' r',Same Hf1 Hf'/\KSt X.K C j a H0 B Hf' sd' σ' H' r'/\PoY X.K E C j a H0 B Hf' (kLoop i f (ds.drop k) sd' r') D',⟨ds.length,by simp,Hf1,sd,r,Same.refl _,x1,by simpa using PoY.weak g1.fz h⟩,?_⟩
  rintro k m σ2 H2 ⟨rfl,Hf2,sd2,r2,s2,x2,h2⟩
  have jj:=J1 k Hf2 H2 s2 x2.sr.sub
  cases q:ds[k]? with
  |none =>
   rw[q] at jj
   refine .inl ⟨jj,?_⟩
   rw[List.drop_eq_nil_of_le (List.getElem?_eq_none_iff.mp q)] at h2
   exact h2 σ2 Hf2 H2 (Same.refl _) x2
  |some d =>
   rw[q] at jj
   obtain⟨go,yl⟩:=jj
   have hlt:k<ds.length:=(List.getElem?_eq_some_iff.mp q).1
   have hd:ds.drop k=d::ds.drop (k+1):=by
    rw[List.drop_eq_getElem_cons hlt]
    congr 1
    exact(List.getElem?_eq_some_iff.mp q).2
   rw[hd] at h2
   refine .inr ⟨go,fun σ' H'=>∃Hf' sd' r',Same Hf1 Hf'/\KSt X.K C j a H0 B Hf' sd' σ' H' r'/\PoY X.K E C j a H0 B Hf' (kLoop i f (ds.drop (k+1)) sd' r') D',fun σ' H' w=>⟨ds.length - (k+1),by lia,rfl,w⟩,fun v H3 y3=>?_⟩
   obtain⟨Hf3,g3,rx⟩:=yl v H3 y3
   have x3:=(x2.gr g3).set i h0 rx
   refine qb a H0 B Hf3 _ _ H3 r2 _ x3 ?_
   unfold kLoop at h2
   have h2:=PoY.weak g3.fz h2
   match ef:f (sd2.set i (some (.im d))) r2,h2 with
   |.ok (.nx sd') r',h2=>exact fun σ' Hf' H' s x'=>⟨Hf',sd',r',(s2.trans g3.fz).trans s,x',PoY.weak s h2⟩
   |.ok (.rt v) r',h2=>exact h2
   |.ex z r',h2=>exact h2
end
end DL
namespace DL
open PySem PySem.Spec PySem.Calls PySem.Builtin PySem.Builtin.ObjectAttr PyProof.Rows L2 PySem.W
def ItG (K:PySem.W.Frag)(Hf H:Hp)(ds:List D)(J:It):Prop:=∀(i:Nat) (Hf1 H1:Hp),Gr Hf H Hf1 H1->match ds[i]? with
 |some d=>J.go i H1/\∀x H2,J.yld i H1 x H2->∃Hf2,Gr Hf1 H1 Hf2 H2/\Rep K Hf2 d x
 |none=>J.stop i H1
theorem ps_setCI (i0:Nat){X:Cx}{pos py spos:Pos}{tg elt iter cnd:Expr}{scope:Scope}{Nc:List Str}{n0:Nat}{caps:List Nat}{cl:List (Str×Addr)}{wi:TI}{gt:D->DSt->M DSt}{fe:DSt->M D}{fc:DSt->M Bool}{y:Str}(hN:X.N.Nodup)(hc:X.calm=true)(hclos:closureFor scope X.env=pure cl)(cap:CapOk X Nc n0 caps scope cl)(hkind:scope.kind=.function)(hcell:∀y∈scope.names,y.2≠.cell)(hnames:∀y∈scope.names,y.2=.local->scope.names.lookup y.1=some .local)(hk:Keep n0 gt)(pw:PI X tg iter wi)(hg:∀s3 H3 C ex,PGd (compCx X Nc scope cl s3 H3 C ex) tg gt)(hcd:∀s3 H3 C ex,PTd (compCx X Nc scope cl s3 H3 C ex) E0 cnd fc)(he:∀s3 H3 C ex,PEd (compCx X Nc scope cl s3 H3 C ex) E0 elt fe)(hs:∀x,foldedSetIterable iter X.env x=pure x:=by intro _;rfl)(hy:X.N[i0]?=some y:=by rfl)(hloc:Loc X.env.scope y:=by first|exact Or.inl rfl|exact Or.inr rfl)(hfy:X.fn y=true\/X.env.scope.names.lookup y=some .local:=by first|exact .inl rfl|exact .inr rfl)(hsw:swapsWith (.ListComp elt [⟨tg,iter,[cnd],0⟩] scope pos) (some (.Name y py)) spos.line X.env=pure true:=by rfl) :
  PS X (.Assign [.Name y py] (.ListComp elt [⟨tg,iter,[cnd],0⟩] scope pos) spos) (fun D' σ H=>∃H0 B Hf sd ds es0,SR X.K H0 B Hf sd σ H/\few ds=true/\filD gt fc fe (sdC n0 caps sd) ds=.ok es0 /\
   wi σ H (fun J H2=>∃Hf2,Gr Hf H Hf2 H2/\ItG X.K Hf2 H2 ds J)/\∀v Hf' H',Gr Hf H Hf' H'->Rep X.K Hf' (.lst es0) v->D'.nx (σ.set i0 (some v)) H'):=by
 rintro pins s σ H D' I ⟨H0,B,Hf,sd,ds,es0,sr,hfew,hfil,hw,fin⟩
 rw[exec_Assign_Name_used _ _ _ _ hsw]
 refine wpAny_bind (wpAny_standAt (wpAny_bind ?_))
 show wpAny _ _ (do let _ <-comprehension (.ListComp elt [⟨tg,iter,[cnd],0⟩] scope pos) scope X.env _ (newList []) false (eval iter X.env) (some (assign (.Name y py) X.env))) _ _ s
 refine wpAny_bind (wpAny_mono (wpAny_comprehension_free (use:=some (assign (.Name y py) X.env)) (Q:=fun _ s'=>SP X pins D' .next s') rfl hs hclos hkind hnames ?_) (fun _ s' hq=>wpAny_pure (wpAny_pure hq)) fun _ _ e=>e)
 refine thn (pw pins s σ H _ I hw) fun v s1 h1=>thn h1 fun itv s2 h2=>?_
 obtain⟨it,fp,tn,J,H2,rfl,I2,T,st2,f2,Hf2,g2,jok⟩:=h2
 have sr2:=sr.gr g2
 have fresh:H2 s2.heap.objs.size=none:=I2.hok.fresh (Nat.le_refl _)
 have holdf:∀b∈fp,∃o,s2.heap.get? b=some o:=fun b hb=>let ⟨o,e,_⟩:=T.obj 0 _ st2 b hb;⟨o,e⟩
 refine wpAny_newObj_type (wpAny_newFunctionEnv hcell (by intro y hy;simp at hy) (fun h₁ hns₁ hsb₁=>?_) hkind)
 have hC:(s2.heap.push Qe).objs.size=s2.heap.objs.size+1:=Heap.size_push _ _
 have hns:h₁.Ns (s2.heap.objs.size+1) (fun x=>([]:List (Str×Value)).reverse.lookup x):=hC▸hns₁
 have hsb:Heap.SameBut (s2.heap.objs.size+1) ((s2.heap.push Qe).push { cls:=.type "dict", data:=.dict #[] }) h₁:=hC▸hsb₁
 have hold1:∀b o,s2.heap.get? b=some o->h₁.get? b=some o:=fun b o e=>by
  have hb:b<s2.heap.objs.size:=Heap.lt_size e
  exact(hsb.2 b (Nat.ne_of_lt (Nat.lt_succ_of_lt hb))).trans (Heap.get?_push_of_some _ (Heap.get?_push_of_some _ e))
 have hD:h₁.get? s2.heap.objs.size=some Qe:=(hsb.2 _ (Nat.ne_of_lt (Nat.lt_succ_self _))).trans (Heap.get?_push_of_some _ (Heap.get?_push_size _ rfl))
 have J0:=comp_inv I2 f2 holdf hkind cap (tk:=s2.toks+([]:List (Str×Value)).length) hns hold1 hD
 have hg:=hg { s2 with heap:=s2.heap.push Qe } (upd H2 s2.heap.objs.size (.lst [])) (s2.heap.objs.size+1) fp
 have hcd:=hcd { s2 with heap:=s2.heap.push Qe } (upd H2 s2.heap.objs.size (.lst [])) (s2.heap.objs.size+1) fp
 have he:=he { s2 with heap:=s2.heap.push Qe } (upd H2 s2.heap.objs.size (.lst [])) (s2.heap.objs.size+1) fp
 generalize hXc:compCx X Nc scope cl { s2 with heap:=s2.heap.push Qe } (upd H2 s2.heap.objs.size (.lst [])) (s2.heap.objs.size+1) fp=Xc at J0 hg hcd he
 have eP:Xc.prog=X.prog:=by subst hXc;rfl
 have eW:Xc.w=X.w:=by subst hXc;rfl
 have eK:Xc.K=X.K:=by subst hXc;rfl
 have eA:Xc.A=X.A:=by subst hXc;rfl
 have eX:Xc.xe=fun _ _=>False:=by subst hXc;rfl
 have eE:Xc.env=compEnvC scope cl (s2.heap.objs.size+1) X.env:=by subst hXc;rfl
 have eC:Xc.calm=true:=by subst hXc;exact hc
 have fpc:∀{H':Hp},(∀b∈fp,H' b=none)->∀b∈fp,FpOk Xc [] H' b:=fun {H'} hn b hb=>by
  subst hXc
  obtain⟨f0,f1,f2',f3,f4,f5⟩:=f2 b hb
  obtain⟨o,eo⟩:=holdf b hb
  refine⟨hn b hb,Nat.ne_of_lt (Nat.lt_succ_of_lt (Heap.lt_size eo)),fun hz=>?_,.inl hb,fun x c e=>f4 x c (cap.sub x c e),fun p hp=>absurd (show p∈([]:List (Addr×Obj)) from hp) (by simp)⟩
  rcases List.mem_cons.mp (I2.stkSub b hz) with e|hz
  ·exact f1 e
  ·exact f2' hz
 have nfp:∀b∈fp,b≠s2.heap.objs.size:=fun b hb=>by
  obtain⟨o,eo⟩:=holdf b hb
  exact Nat.ne_of_lt (Heap.lt_size eo)
 obtain⟨tg',pg,qg⟩:=hg
 obtain⟨tcn,pcn,qcn⟩:=hcd
 obtain⟨te,pe,qe⟩:=he
 have loop:∀s₃:Shared,s₃={ s2 with heap:=h₁,toks:=s2.toks+([]:List (Str×Value)).length } ->
   codeAny (model X.prog X.w) X.A (.compLoop (.ListComp elt [⟨tg,iter,[cnd],0⟩] scope pos) 0 (.ref it) (.ref s2.heap.objs.size) (compEnvC scope cl (s2.heap.objs.size+1) X.env))
    (compPost (model X.prog X.w) X.A X.xe (some (assign (.Name y py) X.env)) (fun _ s'=>SP X pins D' .next s') (.ref s2.heap.objs.size) (s2.heap.objs.size+1)) s₃:=by
  rintro s₃ rfl
  refine codeAny_comp_if (fun n s'=>∃i vs es H' Hf' σ',n=ds.length - i/\i<=ds.length/\Inv Xc [] σ' H' s'/\tn i s'.heap/\(∀b∈fp,H' b=none) /\
   H' s2.heap.objs.size=some (.lst vs)/\Hf' s2.heap.objs.size=none/\Gr Hf2 H2 Hf' H'/\Reps X.K Hf' es vs/\vs.length<=i /\
   (sdC n0 caps sd).length=σ'.length/\(∀(j:Nat) (d:D),(sdC n0 caps sd)[j]?=some (some (.im d))->∃v,σ'[j]?=some (some v)/\Rep X.K Hf' d v) /\
   ∃fs,filD gt fc fe (sdC n0 caps sd) (ds.drop i)=.ok fs/\es++fs=es0) ?_ ds.length ?_
  ·rintro n s' ⟨i,vs,es,H',Hf',σ',rfl,hil,J1,st1,fr1,hd1,hf1,g1,rs1,hl1,hlen1,him1,hq1⟩
   have jj:=jok i Hf' H' g1
   cases q:ds[i]? with
   |none =>
    rw[q] at jj
    have tdone:=T.done Xc eP eW eK eC i [] s' _ H' (fun _ _=>False) J1 (fpc fr1) st1 jj
    rw[eA] at tdone
    refine wpAny_mono tdone (fun r s4 hr=>?_) fun _ _ z=>z
    obtain⟨rfl,J4⟩:=hr
    rw[List.drop_eq_nil_of_le (List.getElem?_eq_none_iff.mp q)] at hq1
    subst hXc
    obtain⟨m,hn4,_⟩:=J4.loc
    have I4:Inv X pins σ H' s4:=comp_back I2 f2 J4 (h':=s4.heap) ⟨rfl,fun _ _=>rfl⟩
    have fC:Fresh X pins (s2.heap.objs.size+1):=fresh_of I2 (Nat.le_succ _)
    have nC:H' (s2.heap.objs.size+1)=none:=J4.free
    show wpAny (model X.prog X.w) X.A (assign (.Name y py) X.env (.ref s2.heap.objs.size)) _ _ s4
    refine wpAny_assign_Name (store_ok2 (v:=.ref s2.heap.objs.size) I4 hN hy hloc rfl (fun s5 I5 hw=>?_) hfy)
    obtain⟨a5,sb5,ha5⟩:=hw
    have neC:s2.heap.objs.size+1≠a5:=by
     rcases ha5 with e|e
     ·rw[e];exact fC.nl
     ·exact(fC.nc _ _ e).symm
    refine⟨m,hn4.sameBut sb5 neC,fun h6 sb6=>?_⟩
    have I6:Inv X pins (σ.set i0 (some (.ref s2.heap.objs.size))) H' { s5 with heap:=h6 }:=inv_ch (a:=s2.heap.objs.size+1) (T:=s2.heap.objs.size+1) I5 ⟨fun b o n1 n2 _ e=>(sb6.2 b n1).trans e,fun b o n1 n2 e=>⟨o.slots,(sb6.2 b n1).trans e⟩⟩ nC nC fC fC
    obtain⟨fs,ef,ee⟩:=hq1
    cases ef
    rw[List.append_nil] at ee
    subst ee
    have g:Gr Hf2 H2 (upd Hf' s2.heap.objs.size (.lst vs)) H':=by
     refine⟨g1.fz.trans (Z1 hf1 _),fun b u z=>?_,g1.all,fun a h1 h2=>?_⟩
     ·by_cases hb:b=s2.heap.objs.size
      ·subst hb;rw[Zn] at z;rw[hd1];exact z
      ·rw[Zj hb] at z;exact g1.sub b u z
     ·have:a≠s2.heap.objs.size:=fun z=>h1.nn (z▸fresh)
      rw[Zj this];exact g1.ban a h1 h2
    exact⟨_,H',I6,fin _ _ H' (g2.trans g) (rep_lst.mpr ⟨_,vs,rfl,SqL.of Zn,rs1.mono (Z1 hf1 _)⟩)⟩
   |some d =>
    rw[q] at jj
    obtain⟨go,yl⟩:=jj
    have hlt:i<ds.length:=(List.getElem?_eq_some_iff.mp q).1
    have hdr:ds.drop i=d::ds.drop (i+1):=by
     rw[List.drop_eq_getElem_cons hlt]
     congr 1
     exact(List.getElem?_eq_some_iff.mp q).2
    obtain⟨sd1,eg,hq2⟩:∃sd1,gt d (sdC n0 caps sd)=.ok sd1/\((fc sd1=.ok true/\∃e1,fe sd1=.ok e1/\∃fs,filD gt fc fe (sdC n0 caps sd) (ds.drop (i+1))=.ok fs/\(es++[e1])++fs=es0) \/
      (fc sd1=.ok false/\∃fs,filD gt fc fe (sdC n0 caps sd) (ds.drop (i+1))=.ok fs/\es++fs=es0)):=by
     rw[hdr] at hq1
     obtain⟨fs,ef,ee⟩:=hq1
     unfold filD at ef
     split at ef
     ·rename_i sd1 eg
      refine⟨sd1,eg,?_⟩
      split at ef
      ·rename_i ec
       refine .inl ⟨ec,?_⟩
       split at ef
       ·rename_i e1 e2
        refine⟨e1,e2,?_⟩
        cases em:filD gt fc fe (sdC n0 caps sd) (ds.drop (i+1)) with
        |ok gs =>
         rw[em] at ef
         cases ef
         exact⟨gs,rfl,by rw[<-ee];simp⟩
        |ex x=>rw[em] at ef;cases ef
        |bad=>rw[em] at ef;cases ef
       ·cases ef
      ·rename_i ec
       exact .inr ⟨ec,fs,ef,ee⟩
      ·cases ef
     ·cases ef
    have titem:=T.item Xc eP eW eK eC i [] s' _ H' (fun _ _=>False) J1 (fpc fr1) st1 go
    rw[eA] at titem
    refine wpAny_mono titem (fun r s4 hr=>?_) fun _ _ z=>z
    obtain⟨u,rfl,h4⟩:=hr
    refine wpAny_mono h4 (fun _ s5 h5=>?_) fun _ _ z=>z
    obtain⟨x,H5,J5,r5,y5,st5,fr5⟩:=h5
    obtain⟨Hf5,g5,rx⟩:=yl x H5 y5
    have J5':=J5.pinned (fpc fr5) (T.obj _ _ st5)
    have hD5:H5 s2.heap.objs.size=some (.lst vs):=g5.all _ _ hd1
    have hf5:Hf5 s2.heap.objs.size=none:=g5.ban _ (Lv.lst hd1) hf1
    have him5:∀(j:Nat) (d:D),(sdC n0 caps sd)[j]?=some (some (.im d))->∃v,σ'[j]?=some (some v)/\Rep X.K Hf5 d v:=fun j d z=>let ⟨v,z1,z2⟩:=him1 j d z;⟨v,z1,z2.mono g5.fz⟩
    have sr5:SR Xc.K H5 (fun a=>Lv H5 a/\Hf5 a=none) Hf5 (sdC n0 caps sd) σ' H5:=eK▸SR.ofIm g5.sub hlen1 him5 sdC_no
    obtain⟨kl,kk,kn⟩:=hk d _ sd1 eg
    rcases hq2 with⟨ec,e1,ee,hq2⟩|⟨ec,hq2⟩
    ·have hg2:=pg _ s5 σ' H5 x u (fun σ6 H6=>tcn σ6 H6 fun bb H6'=>bb=true/\te σ6 H6' fun v7 H7=>∃Hf7,Gr Hf5 H5 Hf7 H7/\Rep X.K Hf7 e1 v7/\(sdC n0 caps sd).length=σ6.length/\(∀(j:Nat) (d:D),(sdC n0 caps sd)[j]?=some (some (.im d))->∃v,σ6[j]?=some (some v)/\Rep X.K Hf7 d v)) J5' r5
      (qg H5 _ Hf5 _ σ' H5 x d sd1 _ sr5 (eK▸rx) eg fun σ6 sr6=>qcn H5 _ Hf5 sd1 σ6 H5 _ sr6 (by
       rw[ec]
       rintro bb Hf6 H6' g6 rfl
       refine⟨rfl,qe H5 _ Hf6 sd1 σ6 H6' _ (sr6.gr g6) ?_⟩
       rw[ee]
       intro v7 Hf7 H7 g7 r7
       have r7:Rep Xc.K Hf7 e1 v7:=r7
       rw[eK] at r7
       refine⟨Hf7,g6.trans g7,r7,by rw[<-kl];exact sr6.len,fun j d z=>?_⟩
       have z2:sd1[j]?=some (some (.im d)):=by rw[kk j (sdC_lt z)];exact z
       obtain⟨v,z3,z4⟩:=sr6.im j d z2
       rw[eK] at z4
       exact⟨v,z3,z4.mono (g6.fz.trans g7.fz)⟩))
     rw[eP,eW,eA,eX,eE] at hg2
     refine wpAny_mono hg2 (fun _ s6 h6=>?_) fun _ _ z=>z
     obtain⟨σ6,H6,J6,q6⟩:=h6
     have hc2:=pcn _ s6 σ6 H6 _ J6 q6
     rw[eP,eW,eA,eX,eE] at hc2
     refine wpAny_mono hc2 (fun bb s6' h6=>?_) fun _ _ z=>z
     obtain⟨H6',J6',rfl,q6'⟩:=h6
     rw[if_pos rfl]
     have he2:=pe _ s6' σ6 H6' _ J6' q6'
     rw[eP,eW,eA,eX,eE] at he2
     refine wpAny_mono he2 (fun y s7 h7=>?_) fun _ _ z=>z
     obtain⟨v7,H7,J7,r7,Hf7,g7,rv7,hl7,him7⟩:=h7
     have hD7:H7 s2.heap.objs.size=some (.lst vs):=g7.all _ _ hD5
     have hf7:Hf7 s2.heap.objs.size=none:=g7.ban _ (Lv.lst hD5) hf5
     have happ:=mt_append (X:=Xc) _ s7 σ6 H7 (.ref s2.heap.objs.size) [v7] (.ref s2.heap.objs.size) [y] (fun _ H8=>H8=upd H7 s2.heap.objs.size (.lst (vs++[v7]))) J7 rfl (.cons r7 .nil)
      ⟨_,vs,v7,rfl,rfl,hD7,by
       have h1:=of_decide_eq_true hfew
       have h2:=sizeLine_eq
       lia,rfl⟩
     rw[eP,eW,eA,eX] at happ
     refine wpAny_mono happ (fun _ s8 h8=>?_) fun _ _ z=>z
     obtain⟨_,H8,J8,_,e8⟩:=h8
     subst e8
     have g17:=(g1.trans g5).trans g7
     refine⟨ds.length - (i+1),by lia,i+1,vs++[v7],es++[e1],_,Hf7,σ6,rfl,hlt,J8.unpinned,?_,fun b hb=>?_,Zn,hf7,⟨g17.fz,fun b o z=>?_,fun b o z=>?_,g17.ban⟩,?_,by rw[List.length_append,List.length_singleton];lia,hl7,him7,hq2⟩
     ·exact T.keep _ _ _ st5 fun b hb o e=>(J8.pin (b,o) (List.mem_append_right _ (List.mem_append_right _ (Yn hb e)))).1
     ·obtain⟨o,e,_⟩:=T.obj _ _ st5 b hb
      exact(J8.pin (b,o) (List.mem_append_right _ (List.mem_append_right _ (Yn hb e)))).2.1
     ·have:b≠s2.heap.objs.size:=Zk z hf7
      rw[Zj this];exact g17.sub b o z
     ·have:b≠s2.heap.objs.size:=Zk z fresh
      rw[Zj this];exact g17.all b o z
     ·exact(rs1.mono (g5.fz.trans g7.fz)).append (Reps.cons rv7 Reps.nil)
    ·have hg2:=pg _ s5 σ' H5 x u (fun σ6 H6=>tcn σ6 H6 fun bb H7=>bb=false/\∃Hf7,Gr Hf5 H5 Hf7 H7/\(sdC n0 caps sd).length=σ6.length/\(∀(j:Nat) (d:D),(sdC n0 caps sd)[j]?=some (some (.im d))->∃v,σ6[j]?=some (some v)/\Rep X.K Hf7 d v)) J5' r5
      (qg H5 _ Hf5 _ σ' H5 x d sd1 _ sr5 (eK▸rx) eg fun σ6 sr6=>qcn H5 _ Hf5 sd1 σ6 H5 _ sr6 (by
       rw[ec]
       rintro bb Hf6 H6' g6 rfl
       refine⟨rfl,Hf6,g6,by rw[<-kl];exact sr6.len,fun j d z=>?_⟩
       have z2:sd1[j]?=some (some (.im d)):=by rw[kk j (sdC_lt z)];exact z
       obtain⟨v,z3,z4⟩:=sr6.im j d z2
       rw[eK] at z4
       exact⟨v,z3,z4.mono g6.fz⟩))
     rw[eP,eW,eA,eX,eE] at hg2
     refine wpAny_mono hg2 (fun _ s6 h6=>?_) fun _ _ z=>z
     obtain⟨σ6,H6,J6,q6⟩:=h6
     have hc2:=pcn _ s6 σ6 H6 _ J6 q6
     rw[eP,eW,eA,eX,eE] at hc2
     refine wpAny_mono hc2 (fun bb s8 h6=>?_) fun _ _ z=>z
     obtain⟨H8,J8,rfl,Hf7,g7,hl7,him7⟩:=h6
     rw[if_neg (by decide)]
     have hD7:H8 s2.heap.objs.size=some (.lst vs):=g7.all _ _ hD5
     have hf7:Hf7 s2.heap.objs.size=none:=g7.ban _ (Lv.lst hD5) hf5
     have g17:=(g1.trans g5).trans g7
     refine⟨ds.length - (i+1),by lia,i+1,vs,es,_,Hf7,σ6,rfl,hlt,J8.unpinned,?_,fun b hb=>?_,hD7,hf7,g17,rs1.mono (g5.fz.trans g7.fz),by lia,hl7,him7,hq2⟩
     ·exact T.keep _ _ _ st5 fun b hb o e=>(J8.pin (b,o) (List.mem_append_right _ (List.mem_append_right _ (Yn hb e)))).1
     ·obtain⟨o,e,_⟩:=T.obj _ _ st5 b hb
      exact(J8.pin (b,o) (List.mem_append_right _ (List.mem_append_right _ (Yn hb e)))).2.1
  ·refine⟨0,[],[],_,Hf2,_,by simp,Nat.zero_le _,J0,T.keep 0 _ _ st2 fun b hb o e=>hold1 b o e,fun b hb=>?_,Zn,g2.sub.free fresh,⟨Same.refl _,fun b o z=>?_,Z1 fresh _,fun _ _ z=>z⟩,Reps.nil,Nat.le_refl _,?_,fun j d z=>?_,?_⟩
   ·rw[Zj (nfp b hb)];exact(f2 b hb).1
   ·have:b≠s2.heap.objs.size:=Zk (g2.sub b o z) fresh
    rw[Zj this];exact g2.sub b o z
   ·unfold sdC;simp only[List.length_append,List.length_replicate,List.length_map]
   ·obtain⟨k,j',d',rfl,ej,es,ed⟩:=sdC_at z
    cases ed
    obtain⟨v,z1,z2⟩:=sr2.im j' d es
    refine⟨v,?_,z2⟩
    rw[List.getElem?_append_right (by simp),List.length_replicate,Nat.add_sub_cancel_left,List.getElem?_map,ej]
    simp[z1]
   ·rw[List.drop_zero]
    exact⟨es0,hfil,rfl⟩
 show codeAny (model X.prog X.w) X.A (.compStart (.ListComp elt [⟨tg,iter,[cnd],0⟩] scope pos) 0 (.ref it) (.ref s2.heap.objs.size) (compEnvC scope cl (s2.heap.push Qe).objs.size X.env))
  (compPost (model X.prog X.w) X.A X.xe (some (assign (.Name y py) X.env)) (fun _ s'=>SP X pins D' .next s') (.ref s2.heap.objs.size) (s2.heap.push Qe).objs.size) { s2 with heap:=h₁,toks:=s2.toks+([]:List (Str×Value)).length }
 rw[hC]
 exact codeAny_compStart_list (loop _ rfl) (T.self X.A 0 _ _ _ (T.keep 0 _ _ st2 fun b hb o e=>hold1 b o e) (loop _ rfl))
end DL
namespace PySem
open PyProof.Rows PySem.W
theorem next_raw_over {prog:Program}{w:World}{A:Around}{E:Value->Shared->Prop}{s:Shared}{it d:Addr}{i ep:Nat}{es:Array DictEntry}{Q:Option Value->Shared->Prop}(hh:A.handled=none)(hit:s.heap.IsKeyIter it d i es.size ep)(hle:es.size<=i)(hm:DictRaw s.heap d es ep)(hQ:∀h',Heap.ExtBut it s.heap h'->Q none { s with heap:=h' }):wpAny (model prog w) A (pyNext (.ref it)) Q E s:=by
 have ty:=hit.typeIs
 obtain⟨o,ho,hc,hd⟩:=id hit
 obtain⟨od,hod,hcd,hdd⟩:=id hm
 unfold pyNext
 refine wpAny_bind (wpAny_attempt (wpAny_callSpecial?_slot (name:=Str.ofString "__next__") ty PySem.F.slot_dict_keyiterator_next (wpAny_call_entry PySem.F.slot_dict_keyiterator_next ty PySem.F.entry_dict_keyiterator_next ?_ (PySem.F.args_dict_keyiterator_next_1 _))))
 obtain⟨oc,odt,odd,osl⟩:=o
 simp only at hc hd
 subst hc hd
 obtain⟨xc,xdt,xdd,xsl⟩:=od
 simp only at hdd
 subst hdd
 have own:Builtin.Dict_items.ownsTuple ((Manifest.find? "dict_keyiterator").elim "dict_keyiterator" fun x=>x.tpName)=false:=by rw[find?_eq_fast];decide +kernel
 have neg:¬((i:Int)<0):=by omega
 have at':es[(i:Int).toNat]?=none:=by rw[Int.toNat_natCast];exact Array.getElem?_eq_none hle
 have hh1:A.in1.handled=none:=hh
 repeat (any_goals (first|assumption|wp_step|(simp only[own,bne_self_eq_false,Bool.false_eq_true,if_false,neg,at',hh1])))
 refine raise_plain hh1 (wpAny_bind ?_)
 refine wpAny_isInstance (b:=true) (T := "StopIteration") ⟨_,Heap.get?_push_size _ rfl,rfl⟩ isSubtype_stop (wpAny_pure ?_)
 exact hQ _ (((Heap.SameBut.update s.heap it _).extBut.push _).push _)
end PySem
namespace DL
open PySem PySem.Spec PyProof.Rows L2 PySem.W
abbrev exO (a:Addr)(ob:Obj):HO:=.ext fun h=>h.get? a=some ob
def Itk (a:Addr)(ob:Obj)(xs:List V):It :=
 ⟨fun i H=>H a=some (exO a ob)/\i<xs.length,fun i H x H'=>H'=H/\xs[i]?=some x,fun i H=>H a=some (exO a ob)/\xs.length<=i⟩
theorem turn_keys {P:Program}{w:World}{K:PySem.W.Frag}{tg:Expr}(a it:Addr)(ob:Obj)(es:Array DictEntry)(ep:Nat)(xs:List V)(hx:ob.ExactDict)(hd:ob.data=.dict es ep)(hv:Vals xs (es.toList.map (·.key)))(hne:a≠it):Turn P w K tg (Itk a ob xs) [it] it (fun i h=>h.IsKeyIter it a i es.size ep) where
 mem:=by simp
 obj:=fun i h st b hb=>by
  have e:b=it:=by simpa using hb
  subst e
  obtain⟨o,e,c,d⟩:=st
  exact⟨o,e,fun v z=>by rw[d] at z;cases z⟩
 keep:=fun i h h' st k=>st.at fun o e=>k it (by simp) o e
 item:=by
  intro X hP hw hK hc i pins s σ H E I hf st hg
  subst hP hw hK
  obtain⟨hq,hi⟩:=hg
  have raw:DictRaw s.heap a es ep:=⟨ob,(I.hok a _ hq).1,hx,hd⟩
  obtain⟨u,e1,ru⟩:=hv.get (List.getElem?_eq_getElem hi)
  have hl:xs.length=es.size:=by
   have:=hv.length
   simpa using this
  obtain⟨f0,f1,f2,f3,f4,f5⟩:=hf it (by simp)
  refine next_raw st raw (by rw[<-hl];exact hi) fun h' st' sb=>?_
  have I1:Inv X pins σ H { s with heap:=h' }:=I.turned (t':=s.toks) (fun b o hb e=>(sb.2 b hb).trans e) f0 f1 f3 f4 f5
  obtain⟨o,e,c,d⟩:=id st'
  have eu:u=(es[i]'(by rw[<-hl];exact hi)).key:=by
   rw[List.getElem?_map,Array.getElem?_toList,Array.getElem?_eq_getElem (by rw[<-hl];exact hi)] at e1
   exact(Option.some.inj e1).symm
  subst eu
  exact⟨_,rfl,go_of (s:={ s with heap:=h' }) e c d (by decide) ⟨xs[i],H,I1,ru,⟨rfl,List.getElem?_eq_getElem hi⟩,st',fun b hb=>(hf b hb).1⟩⟩
 done:=by
  intro X hP hw hK hc i pins s σ H E I hf st hg
  subst hP hw hK
  obtain⟨hq,hi⟩:=hg
  have raw:DictRaw s.heap a es ep:=⟨ob,(I.hok a _ hq).1,hx,hd⟩
  have hl:xs.length=es.size:=by
   have:=hv.length
   simpa using this
  obtain⟨f0,f1,f2,f3,f4,f5⟩:=hf it (by simp)
  exact next_raw_over (I.ok.hd hc) st (by rw[<-hl];exact hi) raw fun h' eb=>⟨rfl,I.turned (t':=s.toks) (fun b o hb e=>eb b o hb e) f0 f1 f3 f4 f5⟩
 self:=fun _ _ _ _ _ st h=>wpAny_pyIter_keyiter st h
section
variable {X:Cx} {E:XK} {C:Addr} {j:Nat} {e:Expr} {pos pos' p p2 p3:Pos}
def tKeysOf (te:TE):TI:=fun σ H R=>te σ H fun x H1=>∃a ob es ep xs,x=.ref a/\H1 a=some (exO a ob)/\ob.ExactDict/\ob.data=.dict es ep/\(a==sysModules)=false/\Vals xs (es.toList.map (·.key))/\R (Itk a ob xs) H1
theorem pi_keys {tg:Expr}{te:TE}(he:PE X e te):PI X tg e (tKeysOf te):=by
 intro pins s σ H R I h
 refine thn (he pins s σ H _ I h) fun v s1 ⟨x,H1,I1,r1,a,ob,es,ep,xs,e,hq,hx,hd,lo,hv,q⟩=>?_
 subst e
 obtain rfl:v=Value.ref a:=r1
 have g:=(I1.hok a _ hq).1
 have g:s1.heap.get? a=some ob:=g
 refine iter_raw lo ⟨ob,g,hx,hd⟩ ?_
 have la:a<s1.heap.objs.size:=Heap.lt_size g
 refine⟨s1.heap.objs.size,[s1.heap.objs.size],_,Itk a ob xs,_,rfl,I1.kept (t':=s1.toks) fun b o e=>Heap.get?_push_of_some _ e,turn_keys a _ ob es ep xs hx hd hv (Nat.ne_of_lt la),⟨_,Heap.get?_push_size _ rfl,rfl,rfl⟩,fun b hb=>?_,q⟩
 have e:b=s1.heap.objs.size:=by simpa using hb
 subst e
 exact I1.fpOk (Nat.le_refl _) (I1.hok.fresh (Nat.le_refl _))
def dKey:Key->D
 |.inl i=>.int i
 |.inr s=>.str s
theorem itk_ok {K:PySem.W.Frag}{Hf H:Hp}{a:Addr}{ob:Obj}{ks:List Key}(h:H a=some (exO a ob)):ItG K Hf H (ks.map dKey) (Itk a ob (ks.map kV)):=by
 intro i Hf1 H1 g
 have h2:=g.all _ _ h
 cases q:ks[i]? with
 |some k =>
  rw[List.getElem?_map,q]
  refine⟨⟨h2,by rw[List.length_map];exact(List.getElem?_eq_some_iff.mp q).1⟩,fun x H2 hx=>?_⟩
  obtain⟨e,hx⟩:=hx
  subst e
  rw[List.getElem?_map,q] at hx
  cases hx
  refine⟨Hf1,Gr.refl g.sub,?_⟩
  cases k with
  |inl i=>exact rep_int.mpr rfl
  |inr s=>exact rep_str.mpr rfl
 |none =>
  rw[List.getElem?_map,q]
  exact⟨h2,by rw[List.length_map];exact List.getElem?_eq_none_iff.mp q⟩
theorem pairs_keys {P:Program}{w:World}:∀{es:List DictEntry} {vs:List (Key×Value)},Pairs (Qo P w) es vs->Vals ((vs.map (·.1)).map kV) (es.map (·.key)):=by
 intro es vs h
 induction h with
 |nil=>exact .nil
 |cons h1 h2 h3 ih =>
  rename_i e kv es' kvs'
  refine .cons ?_ ih
  rcases Qs (k:=kv.1) (v:=e.key) h1 with⟨i,t,e1,e2⟩|⟨x,t,e1,e2⟩
  ·show RelV (kV kv.1) e.key;rw[e1,e2];exact⟨t,rfl⟩
  ·show RelV (kV kv.1) e.key;rw[e1,e2];exact⟨t,rfl⟩
theorem dk_hold {pins:List (Addr×Obj)}{σ:L2.St}{H:Hp}{s:Shared}{a:Addr}{ys:List (Key×V)}(I:Inv X pins σ H s)(h:H a=some (.dK ys)) :
  ∃ob es ep,ob.ExactDict/\ob.data=.dict es ep/\(a==sysModules)=false/\Vals ((ys.map (·.1)).map kV) (es.toList.map (·.key))/\Inv X pins σ (upd H a (exO a ob)) s /\
   ∀{σ':L2.St} {H':Hp} {s':Shared},Inv X pins σ' H' s'->H' a=some (exO a ob)->Inv X pins σ' (upd H' a (.dK ys)) s':=by
 obtain⟨z,lo,vs,kv,ob,es,ep,ho,ex,dat,ko,pr,nd⟩:=(show ObjOk X.prog X.w H s.heap a (.dK ys) from I.hok a _ h)
 refine⟨ob,es,ep,ex,dat,lo,?_,?_,fun {σ' H' s'} I' q=>?_⟩
 ·rw[<-kv_keys kv];exact pairs_keys pr
 ·exact I.write (x:=a) (e:=a) (o:=exO a ob) (h':=s.heap) (t':=s.toks) (by rw[h];trivial) (.inl rfl) (fun _ _ _ q=>q) ⟨ob,ho⟩ ⟨ho,⟨ob,ho⟩,fun h1 h2 q k=>k _ q⟩
 ·have ho':s'.heap.get? a=some ob:=(I'.hok a _ q).1
  exact I'.write (x:=a) (e:=a) (o:=.dK ys) (h':=s'.heap) (t':=s'.toks) (by rw[q];trivial) (.inl rfl) (fun _ _ _ q=>q) ⟨ob,ho'⟩ ⟨z,lo,vs,kv,ob,es,ep,ho',ex,dat,ko,pr,nd⟩
theorem repkv_keys {K:PySem.W.Frag}{Hf:Hp}{kvs:List (Key×D)}{ys:List (Key×V)}(r:RepKV K Hf kvs ys):ys.map (·.1)=kvs.map (·.1):=by
 unfold RepKV at r
 induction r with
 |nil=>rfl
 |cons h t ih=>rw[List.map_cons,List.map_cons,ih,h.1]
theorem sr_upd {K:PySem.W.Frag}{H0:Hp}{B:Addr->Prop}{Hf H:Hp}{sd:DSt}{σ:L2.St}(sr:SR K H0 B Hf sd σ H)(im:∀(i:Nat) (t:S),sd[i]?=some (some t)->t.own=false){b:Addr}(h0:H0 b=none)(hf:Hf b=none)(o:HO):SR K H0 B Hf sd σ (L2.upd H b o):=by
 refine⟨fun c u q=>?_,fun c u q=>?_,sr.ban,sr.bt,sr.len,sr.imS,fun i t e o=>?_,fun i j t u p hij e1 o1 _ _ _ _=>?_⟩
 ·rw[Zj (Zk q hf)];exact sr.sub c u q
 ·rw[Zj (Zk q h0)];exact sr.all c u q
 ·rw[im i t e] at o;cases o
 ·rw[im i t e1] at o1;cases o1
theorem fil_noex {gt:D->DSt->M DSt}{fc:DSt->M Bool}{fe:DSt->M D}{sd0:DSt}:∀{ds:List D} {z:XV},filD gt fc fe sd0 ds=.ex z->False:=by
 intro ds
 induction ds with
 |nil=>intro z h;cases h
 |cons d r ih =>
  intro z h
  unfold filD at h
  split at h
  ·split at h
   ·split at h
    ·cases q:filD gt fc fe sd0 r with
     |ok es=>rw[q] at h;cases h
     |ex w=>exact ih q
     |bad=>rw[q] at h;cases h
    ·cases h
   ·exact ih h
   ·cases h
  ·cases h
def kComp (i0 n0:Nat)(caps:List Nat)(gt:D->DSt->M DSt)(fc:DSt->M Bool)(fe:DSt->M D)(sd:DSt)(r:Dk):KE KO :=
 if few (r.people.map fun kv=>dKey kv.1) then(KE.of (filD gt fc fe (sdC n0 caps sd) (r.people.map fun kv=>dKey kv.1)) r).bind fun es r'=>.ok (.nx (sd.set i0 (some (.im (.lst es))))) r' else .bad
theorem psy_comp (i0:Nat){vn:Str}{py spos ppos:Pos}{tg elt cnd:Expr}{scope:Scope}{Nc:List Str}{n0:Nat}{caps:List Nat}{cl:List (Str×Addr)}{gt:D->DSt->M DSt}{fe:DSt->M D}{fc:DSt->M Bool}{y:Str}(hN:X.N.Nodup)(hc:X.calm=true)(hclos:closureFor scope X.env=pure cl)(cap:CapOk X Nc n0 caps scope cl)(hkind:scope.kind=.function)(hcell:∀y∈scope.names,y.2≠.cell)(hnames:∀y∈scope.names,y.2=.local->scope.names.lookup y.1=some .local)(cls:Cls X.K C) (na:NoAttr X.K C "people")
  (hk:Keep n0 gt) (hg:∀s3 H3 C ex,PGd (compCx X Nc scope cl s3 H3 C ex) tg gt) (hcd:∀s3 H3 C ex,PTd (compCx X Nc scope cl s3 H3 C ex) E0 cnd fc) (he:∀s3 H3 C ex,PEd (compCx X Nc scope cl s3 H3 C ex) E0 elt fe)
  (hij:i0≠j:=by decide) (hjN:X.N[j]?=some vn:=by rfl) (hv:Vis X.env.scope vn:=by first|exact Or.inl rfl|exact Or.inr (Or.inl rfl)|exact Or.inr (Or.inr rfl)) (hd:(vn==("__debug__" : Str))=false:=by decide)
  (hcdd:(vn==("__classdict__" : Str))=false:=by decide) (hb:attributeBase (.Name vn p) "people" X.env (eval (.Name vn p) X.env)=eval (.Name vn p) X.env:=by rfl)
  (hs:∀x,foldedSetIterable (.Attribute (.Name vn p) "people" ppos) X.env x=pure x:=by intro _;rfl) (hy:X.N[i0]?=some y:=by rfl) (hloc:Loc X.env.scope y:=by first|exact Or.inl rfl|exact Or.inr rfl) (hfy:X.fn y=true\/X.env.scope.names.lookup y=some .local:=by first|exact .inl rfl|exact .inr rfl)
  (hsw:swapsWith (.ListComp elt [⟨tg,.Attribute (.Name vn p) "people" ppos,[cnd],0⟩] scope pos) (some (.Name y py)) spos.line X.env=pure true:=by rfl) :
  PSy X E C j (.Assign [.Name y py] (.ListComp elt [⟨tg,.Attribute (.Name vn p) "people" ppos,[cnd],0⟩] scope pos) spos) (kComp i0 n0 caps gt fc fe):=by
 have base:=ps_setCI i0 (pos:=pos) (py:=py) (spos:=spos) hN hc hclos cap hkind hcell hnames hk (pi_keys (tg:=tg) (pe_fld (Z8 (pos:=p) hjN hv hd hcdd) hb)) hg hcd he hs hy hloc hfy hsw
 refine⟨fun D' σ H=>∃a H0 B Hf sd r,KSt X.K C j a H0 B Hf sd σ H r/\PoY X.K E C j a H0 B Hf (kComp i0 n0 caps gt fc fe sd r) D',?_,fun a H0 B Hf sd σ H r D' x h=>⟨a,H0,B,Hf,sd,r,x,h⟩⟩
 rintro pins s σ H D' I ⟨a,H0,B,Hf,sd,r,x,h⟩
 obtain⟨pp,e0,dx,vh,ys,e1,e2,e3,e4,e5,e6⟩:=x.at_
 obtain⟨ob,es,ep,hx,hdat,lo,hvals,I1,thaw⟩:=dk_hold I e3
 have ek:=repkv_keys e4
 unfold kComp at h
 split at h
 case isFalse=>exact h.elim
 rename_i hfew
 have hh:∃es0,filD gt fc fe (sdC n0 caps sd) (r.people.map fun kv=>dKey kv.1)=.ok es0/\PoY X.K E C j a H0 B Hf (.ok (.nx (sd.set i0 (some (.im (.lst es0))))) r) D'\/∃z,filD gt fc fe (sdC n0 caps sd) (r.people.map fun kv=>dKey kv.1)=.ex z:=by
  cases q:filD gt fc fe (sdC n0 caps sd) (r.people.map fun kv=>dKey kv.1) with
  |ok es0=>rw[q] at h;exact⟨es0,.inl ⟨rfl,h⟩⟩
  |ex z=>exact⟨[],.inr ⟨z,rfl⟩⟩
  |bad=>rw[q] at h;exact h.elim
 obtain⟨es0,⟨hfil,h⟩|⟨z,hz⟩⟩:=hh
 case inr=>exact(fil_noex hz).elim
 have sr1:=x.upd e0 e6 (exO pp ob)
 have ks:(r.people.map fun kv=>dKey kv.1)=(r.people.map (·.1)).map dKey:=by rw[List.map_map];rfl
 have run:=base pins s σ _ { nx:=fun σ' H'=>∃v Hf',Gr Hf (upd H pp (exO pp ob)) Hf' H'/\Rep X.K Hf' (.lst es0) v/\σ'=σ.set i0 (some v),rt:=fun _ _=>False } I1
  ⟨H0,B,Hf,sd,_,es0,sr1,hfew,hfil,⟨.ref a,x.sj,a,C,dx,_,.ref pp,rfl,(Zj (Ne.symm e5)).trans e1,cls,na,rfl,pp,ob,es,ep,_,rfl,Zn,hx,hdat,lo,hvals,Hf,Gr.refl sr1.sub,by rw[ks,ek];exact itk_ok Zn⟩,fun v Hf' H' g rv=>⟨v,Hf',g,rv,rfl⟩⟩
 refine wpAny_mono run (fun fl s7 h7=>?_) fun _ _ z=>z
 cases fl with
 |next =>
  obtain⟨σ',H',I8,v,Hf',g,rv,rfl⟩:=h7
  have q8:=g.all pp _ Zn
  refine⟨_,_,thaw I8 q8,h _ Hf' _ g.fz ?_⟩
  have fp:Hf' pp=none:=g.ban pp ⟨_,Zn,fun _ q=>by cases q⟩ e6
  have e1':upd H pp (exO pp ob) a=some (.ins C dx [("hall", vh),("people", .ref pp)]):=(Zj (Ne.symm e5)).trans e1
  have im:∀(i:Nat) (t:S),(sd.set i0 (some (.im (.lst es0))))[i]?=some (some t)->t.own=false:=fun k t e=>by
   by_cases hk:i0=k
   ·subst hk
    have hl:i0<sd.length:=by
     have:=(List.getElem?_eq_some_iff.mp e).1
     simpa using this
    rw[List.getElem?_set_self hl] at e
    cases e
    rfl
   ·rw[List.getElem?_set_ne hk] at e
    exact x.im k t e
  exact⟨sr_upd ((sr1.gr g).set_im i0 rv) im e0 fp _,(List.getElem?_set_ne hij).trans x.sj,x.h0,g.ban a (lv_ins e1') x.hf,im,pp,e0,dx,vh,ys,(Zj (Ne.symm e5)).trans (g.all _ _ e1'),e2.mono g.fz,Zn,e4.mono g.fz,e5,fp⟩
 |ret u=>obtain⟨_,_,_,_,_,q⟩:=h7;exact q.elim
 |brk=>obtain⟨_,_,_,q⟩:=h7;exact q.elim
 |cont=>obtain⟨_,_,_,q⟩:=h7;exact q.elim
end
section
variable {X:Cx} {E:XK} {C:Addr} {j:Nat} {e:Expr} {pos pos' p p2 p3:Pos}
theorem call_listK (hc:X.calm=true):CallR X (.type "list") (fun xs H Q=>∃a ys,xs=[V.ref a]/\H a=some (.dK ys)/\∀l,H l=none->Q (.ref l) (upd H l (.lst ((ys.map (·.1)).map kV)))):=by
 intro pins s σ H xs us Q I r h
 obtain⟨a,ys,rfl,ha,q⟩:=h
 obtain⟨u,rfl,ru⟩:=vals1 r
 cases ru
 obtain⟨z,lo,vs,kv,ob,es,ep,ho,ex,dat,ko,pr,nd⟩:=(show ObjOk X.prog X.w H s.heap a (.dK ys) from I.hok a _ ha)
 have hv:Vals ((ys.map (·.1)).map kV) (es.toList.map (·.key)):=by rw[<-kv_keys kv];exact pairs_keys pr
 have hl:ys.length=es.size:=by
  have:=hv.length
  simpa using this
 refine list_raw lo (I.ok.hd hc) ⟨ob,ho,ex,dat⟩ (by rw[<-hl];exact z) fun h' tk c' keep hat=>?_
 refine⟨.ref s.heap.objs.size,_,I.laid (a:=s.heap.objs.size) (o:=.lst ((ys.map (·.1)).map kV)) (t':=tk) keep (Nat.le_refl _) ⟨by rw[List.length_map,List.length_map];exact z,_,c',hv,?_⟩,rfl,q _ (I.hok.fresh (Nat.le_refl _))⟩
 rw[hat]
 congr 3
 rw[<-Array.toList_map,Array.toArray_toList]
def kList (_:DSt)(r:Dk):KE D:=.ok (.lst (r.people.map fun kv=>dKey kv.1)) r
theorem reps_keys {K:PySem.W.Frag}{Hf:Hp}:∀(ks:List Key),Reps K Hf (ks.map dKey) (ks.map kV)
 |[]=>Reps.nil
 |.inl i::r=>Reps.cons (rep_int.mpr rfl) (reps_keys r)
 |.inr s::r=>Reps.cons (rep_str.mpr rfl) (reps_keys r)
theorem pey_list {vn:Str}{p4:Pos}(hc:X.calm=true)(cl:Cls X.K C) (na:NoAttr X.K C "people") (z:X.mg "list" = none) (hN:X.N[j]?=some vn:=by rfl) (hv:Vis X.env.scope vn:=by first|exact Or.inl rfl|exact Or.inr (Or.inl rfl)|exact Or.inr (Or.inr rfl)) (hd:(vn==("__debug__" : Str))=false:=by decide)
  (hcd:(vn==("__classdict__" : Str))=false:=by decide) (hb:attributeBase (.Name vn p) "people" X.env (eval (.Name vn p) X.env)=eval (.Name vn p) X.env:=by rfl) (hg:Gl X "list" := by rfl)
  (he:starEach [.Attribute (.Name vn p) "people" p4] X.env=(false,eval (.Attribute (.Name vn p) "people" p4) X.env)::starEach [] X.env:=by rfl) (hpl:(backTo pos (starEach [] X.env)).any (·.1)=false:=by rfl) :
  PEy X E C j (.Call (.Name "list" p2) [.Attribute (.Name vn p) "people" p4] [] pos) kList:=by
 refine⟨_,pe_callTy (T := "list") (call_listK hc) hg z rfl (Qp (pe_fld (Z8 hN hv hd hcd) hb) Y7 he) (by decide) (by decide) he hpl,fun a H0 B Hf sd σ H r Q x h=>?_⟩
 obtain⟨pp,e0,dx,vh,ys,e1,e2,e3,e4,e5,e6⟩:=id x.at_
 refine⟨.ref a,x.sj,a,C,dx,_,.ref pp,rfl,e1,cl,na,rfl,pp,ys,rfl,e3,fun l hl=>?_⟩
 have g:=Gr.alloc x.sr.sub hl (.lst ((ys.map (·.1)).map kV))
 refine h _ _ _ g.fz (x.gr g) ?_
 have ek:=repkv_keys e4
 have:(r.people.map fun kv=>dKey kv.1)=(r.people.map (·.1)).map dKey:=by rw[List.map_map];rfl
 rw[this,ek]
 exact rep_lst.mpr ⟨l,_,rfl,SqL.of Zn,reps_keys _⟩
def EntsG {α:Type}(w:World)(R:α->Addr->Prop):List DictEntry->List (Str×Option α)->Prop
 |[],[]=>True
 |e::es,kv::r=>e.hash=hashStr w kv.1/\(∃t,e.key=.str kv.1 t)/\(∀x,kv.2=some x->∃a,e.val=.ref a/\R x a)/\EntsG w R es r
 |_,_=>False
structure DkG {α:Type} (w:World) (K:Frag) (mg:Str->Option Value) (R:α->Addr->Prop) (x:Str) (kvs:List (Str×Option α)):Prop where
 ex:∃(a:Addr) (es:Array DictEntry) (ep:Nat),mg x=some (.ref a)/\K.lookup a=some ⟨.type "dict", none,.dict es ep,#[]⟩/\EntsG w R es.toList kvs/\(kvs.map (·.1)).Nodup/\(a==sysModules)=false
theorem dkg_mk {α:Type}{w:World}{K:Frag}{h:Heap}{mg:Str->Option Value}{R:α->Addr->Prop}{x:Str}{kvs:List (Str×Option α)}{a:Addr}{es:Array DictEntry}{ep:Nat}(X:K.In h)(G:h.Ns mainGlobals mg)(ya:nsIn K mainGlobals x=some (some (.ref a)))
  (yl:K.lookup a=some ⟨.type "dict", none,.dict es ep,#[]⟩) (ye:EntsG w R es.toList kvs) (yn:(kvs.map (·.1)).Nodup) (ys:(a==sysModules)=false):DkG w K mg R x kvs:=⟨_,_,_,mg_of X G ya,yl,ye,yn,ys⟩
def lookG {α:Type}(kvs:List (Str×Option α))(k:Str):Option (Option α):=(kvs.find? fun kv=>decide (kv.1=k)).map (·.2)
def hasG {α:Type}(kvs:List (Str×Option α))(k:Str):Bool:=kvs.any fun kv=>decide (kv.1=k)
theorem entsG_pairs {α:Type}{P:Program}{w:World}{R:α->Addr->Prop}:∀{es:List DictEntry} {kvs:List (Str×Option α)},EntsG w R es kvs->∃vs:List (Key×Value),Pairs (Qo P w) es vs/\vs.map (·.1)=kvs.map (fun kv=>(Sum.inr kv.1:Key)) /\
  (∀k x,lookG kvs k=some (some x)->∃a,valueAt vs (.inr k)=some (.ref a)/\R x a)/\(∀k,(valueAt vs (.inr k)).isSome=hasG kvs k)/\∀e∈es,∃k,(Qo P w).is k e.key=true/\e.hash=(Qo P w).hash k
 |[],[],_=>⟨[],.nil,rfl,fun k x h=>(by unfold lookG at h;cases h),fun k=>rfl,fun e h=>(by cases h)⟩
 |[],_::_,h=>h.elim
 |_::_,[],h=>h.elim
 |e::es,kv::r,⟨h1,⟨t,h2⟩,h3,h4⟩=>by
  obtain⟨vs,p2,p3,p4,p5,p6⟩:=entsG_pairs (P:=P) h4
  have hk:(Qo P w).is (.inr kv.1) e.key=true:=by rw[h2];exact mixKind_str P w kv.1 t
  refine⟨(.inr kv.1,e.val)::vs,.cons hk rfl p2,by rw[List.map_cons,List.map_cons,p3],fun k x q=>?_,fun k=>?_,fun e' he=>?_⟩
  ·by_cases h:kv.1=k
   ·have q':kv.2=some x:=by
     unfold lookG at q
     rw[List.find?_cons_of_pos (by simpa using h)] at q
     exact Option.some.inj q
    obtain⟨a,e1,e2⟩:=h3 x q'
    refine⟨a,?_,e2⟩
    unfold valueAt
    rw[List.find?_cons_of_pos (by simp[h]),<-e1]
    rfl
   ·have h':¬(Sum.inr kv.1:Key)=Sum.inr k:=fun z=>h (Sum.inr.inj z)
    have q':lookG r k=some (some x):=by
     unfold lookG at q ⊢
     rw[List.find?_cons_of_neg (by simpa using h)] at q
     exact q
    obtain⟨a,e1,e2⟩:=p4 k x q'
    refine⟨a,?_,e2⟩
    unfold valueAt at e1 ⊢
    rw[List.find?_cons_of_neg (by simpa using h')]
    exact e1
  ·have i5:=p5 k
   unfold valueAt hasG at i5 ⊢
   by_cases h:kv.1=k
   ·rw[List.find?_cons_of_pos (by simp[h]),List.any_cons,decide_eq_true h]
    rfl
   ·have h':¬(Sum.inr kv.1:Key)=Sum.inr k:=fun z=>h (Sum.inr.inj z)
    rw[List.find?_cons_of_neg (by simpa using h'),List.any_cons,decide_eq_false h,Bool.false_or]
    exact i5
  ·rcases List.mem_cons.mp he with rfl|he
   ·exact⟨_,hk,h1⟩
   ·exact p6 e' he
theorem DkG.dict {α:Type}{R:α->Addr->Prop}{pins:List (Addr×Obj)}{σ:L2.St}{H:Hp}{s:Shared}{x:Str}{kvs:List (Str×Option α)}(I:Inv X pins σ H s)(d:DkG X.w X.K X.mg R x kvs):∃a,X.mg x=some (.ref a)/\(a==sysModules)=false/\∃vs,s.heap.DictOf (Qo X.prog X.w) a vs /\
  (∀k x,lookG kvs k=some (some x)->∃a,valueAt vs (.inr k)=some (.ref a)/\R x a)/\(∀k,(valueAt vs (.inr k)).isSome=hasG kvs k):=by
 obtain⟨a,es,ep,hm,hl,he,hn,hs⟩:=d.ex
 obtain⟨vs,p2,p3,p4,p5,p6⟩:=entsG_pairs (P:=X.prog) he
 refine⟨a,hm,hs,vs,⟨_,es,ep,I.kIn a _ hl,⟨rfl,rfl,rfl⟩,rfl,fun e he=>p6 e (by simpa using he),p2,?_⟩,p4,p5⟩
 rw[p3,show(fun kv:Str×Option α=>(Sum.inr kv.1:Key))=(Sum.inr:Str->Key)∘(fun kv=>kv.1) from rfl,<-List.map_map]
 exact List.Pairwise.map _ (fun a b h z=>h (Sum.inr.inj z)) hn
def tIxG {α:Type}(R:α->Addr->Prop)(kvs:List (Str×Option α))(ty:TE):TE:=fun σ H Q=>ty σ H fun y H1=>∃k x,y=.str k/\lookG kvs k=some (some x)/\∀a,R x a->Q (.ref a) H1
theorem pe_ixG {α:Type}{R:α->Addr->Prop}{x:Str}{kvs:List (Str×Option α)}{ty:TE}(d:DkG X.w X.K X.mg R x kvs)(he:PE X e ty)(hs:NoSl e)(hg:Gl X x) (hd:(x==("__debug__" : Str))=false):PE X (.Subscript (.Name x p) e pos) (tIxG R kvs ty):=by
 intro pins s σ H Q I h
 obtain⟨a,_,_,hm,_⟩:=d.ex
 refine subD_of PySem.F.slot_dict_getitem.lookup hs (ld_glob I hg hm (thn (he pins s σ H _ I h) fun iv s2 ⟨y,H2,I2,ry,k,z,ey,l,q2⟩=>?_) hd)
 subst ey
 obtain⟨a',hm',hs',vs',dd',p4,_⟩:=d.dict I2
 rw[hm] at hm'
 cases hm'
 obtain⟨b,hw,rb⟩:=p4 k z l
 exact⟨dd'.typeIs,wpAny_getItem_of (kV_is (k:=.inr k) ry) dd'.mapOf hw ⟨.ref b,H2,I2.tok _,rfl,q2 b rb⟩⟩
abbrev fnIs (K:Frag)(nm:Str)(a:Addr):Prop:=nsIn K mainGlobals nm=some (some (.ref a))
abbrev txIs (K:Frag)(ws:List Str)(a:Addr):Prop:=tupB K a (ws.map V.str)=true
def sSetFn (i:Nat)(kvs:List (Str×Option Str))(f:DSt->M D)(sd:DSt):M O:=(f sd).bind fun d=>match d with
 |.str k=>(match lookG kvs k with
  |some (some nm)=>.ok (.nx (sd.set i (some (.fn nm))))
  |_=>.bad)
 |_=>.bad
theorem psd_setFn (i:Nat){y x:Str}{spos:Pos}{kvs:List (Str×Option Str)}{f:DSt->M D}(hN:X.N.Nodup)(d:DkG X.w X.K X.mg (fnIs X.K) x kvs)(he:PEd X E e f)(hs:NoSl e)(hi:X.N[i]?=some y:=by rfl)(hx:Loc X.env.scope y:=by first|exact Or.inl rfl|exact Or.inr rfl)(hsw:swapsWith (.Subscript (.Name x p) e pos) (some (.Name y pos')) spos.line X.env=pure false:=by rfl)(hf:X.fn y=true\/X.env.scope.names.lookup y=some .local:=by first|exact .inl rfl|exact .inr rfl|assumption)(hg:Gl X x:=by rfl) (hd:(x==("__debug__" : Str))=false:=by decide):PSd X E (.Assign [.Name y pos'] (.Subscript (.Name x p) e pos) spos) (sSetFn i kvs f):=by
 obtain⟨t,pt,q⟩:=he
 refine⟨_,ps_set hN hi hx (pe_ixG d pt hs hg hd) hsw hf,fun H0 B Hf sd σ H D' sr h=>?_⟩
 refine q H0 B Hf sd σ H _ sr (PoS.bind sr h fun dd v Hf1 H1 _ g1 sr1 rv h1=>?_)
 cases dd with
 |str k =>
  dsimp only at h1
  split at h1
  ·rename_i nm el
   exact⟨k,nm,rep_str.mp rv,el,fun a ra=>h1 _ Hf1 H1 (Same.refl _) (sr1.set_st i rfl ⟨a,rfl,ra⟩)⟩
  ·exact h1.elim
 |_=>exact h1.elim
theorem pe_ninG {α:Type}{R:α->Addr->Prop}{x:Str}{kvs:List (Str×Option α)}{ty:TE}(d:DkG X.w X.K X.mg R x kvs)(he:PE X e ty)(hg:Gl X x) (hd:(x==("__debug__" : Str))=false):PC X .NotIn e (.Name x p) (fun σ H Q=>ty σ H fun y H1=>∃k,y=.str k/\Q (.bl (!hasG kvs k)) H1):=by
 intro pins s σ H Q I h
 obtain⟨a,_,_,hm,_⟩:=d.ex
 refine thn (he pins s σ H _ I h) fun iv s1 ⟨y,H1,I1,ry,k,ey,q1⟩=>ld_glob I1 hg hm ?_ hd
 subst ey
 obtain⟨a',hm',hs',vs',dd',_,p5⟩:=d.dict I1
 rw[hm] at hm'
 cases hm'
 refine wpAny_notIn_of (kV_is (k:=.inr k) ry) hs' dd'.mapOf ?_
 rw[p5 k]
 exact⟨.bl (!hasG kvs k),H1,I1.tok _,rfl,q1⟩
theorem pd_or2 {f g:DSt->M D}(c:DSt->Bool)(h1:PEd X E e f)(h2:PEd X E e g):PEd X E e (fun sd=>if c sd then f sd else g sd):=by
 obtain⟨t1,p1,q1⟩:=h1
 obtain⟨t2,p2,q2⟩:=h2
 refine⟨fun σ H Q=>t1 σ H Q\/t2 σ H Q,fun pins s σ H Q I h=>?_,fun H0 B Hf sd σ H Q sr h=>?_⟩
 ·rcases h with h|h
  ·exact p1 pins s σ H Q I h
  ·exact p2 pins s σ H Q I h
 ·cases q:c sd with
  |true=>dsimp only at h;rw[q,if_pos rfl] at h;exact .inl (q1 H0 B Hf sd σ H Q sr h)
  |false=>dsimp only at h;rw[q,if_neg Bool.false_ne_true] at h;exact .inr (q2 H0 B Hf sd σ H Q sr h)
theorem pey_or {f g:DSt->Dk->KE D}(c:DSt->Bool)(h1:PEy X E C j e f)(h2:PEy X E C j e g):PEy X E C j e (fun sd r=>if c sd then f sd r else g sd r):=by
 obtain⟨t1,p1,q1⟩:=h1
 obtain⟨t2,p2,q2⟩:=h2
 refine⟨fun σ H Q=>t1 σ H Q\/t2 σ H Q,fun pins s σ H Q I h=>?_,fun a H0 B Hf sd σ H r Q sr h=>?_⟩
 ·rcases h with h|h
  ·exact p1 pins s σ H Q I h
  ·exact p2 pins s σ H Q I h
 ·cases q:c sd with
  |true=>dsimp only at h;rw[q,if_pos rfl] at h;exact .inl (q1 a H0 B Hf sd σ H r Q sr h)
  |false=>dsimp only at h;rw[q,if_neg Bool.false_ne_true] at h;exact .inr (q2 a H0 B Hf sd σ H r Q sr h)
def kSetFn (i:Nat)(kvs:List (Str×Option Str))(f:DSt->M D)(sd:DSt)(r:Dk):KE KO:=(KE.of (f sd) r).bind fun d r'=>match d with
 |.str k=>(match lookG kvs k with
  |some (some nm)=>.ok (.nx (sd.set i (some (.fn nm)))) r'
  |_=>.bad)
 |_=>.bad
theorem psy_setFn (i:Nat){y x:Str}{spos:Pos}{kvs:List (Str×Option Str)}{f:DSt->M D}(hN:X.N.Nodup)(d:DkG X.w X.K X.mg (fnIs X.K) x kvs)(he:PEd X E e f)(hs:NoSl e)(h0:i≠j:=by decide)(hi:X.N[i]?=some y:=by rfl)(hx:Loc X.env.scope y:=by first|exact Or.inl rfl|exact Or.inr rfl)(hsw:swapsWith (.Subscript (.Name x p) e pos) (some (.Name y pos')) spos.line X.env=pure false:=by rfl)(hf:X.fn y=true\/X.env.scope.names.lookup y=some .local:=by first|exact .inl rfl|exact .inr rfl|assumption)(hg:Gl X x:=by rfl) (hd:(x==("__debug__" : Str))=false:=by decide):PSy X E C j (.Assign [.Name y pos'] (.Subscript (.Name x p) e pos) spos) (kSetFn i kvs f):=by
 obtain⟨t,pt,q⟩:=he
 refine⟨_,ps_set hN hi hx (pe_ixG d pt hs hg hd) hsw hf,fun a H0 B Hf sd σ H r D' x h=>?_⟩
 refine q H0 B Hf sd σ H _ x.sr (PoE.dat (r:=r) (E:=E) x (PoE.then h fun d r' v Hf' H' s x' rv h'=>?_))
 cases d with
 |str k =>
  dsimp only at h'
  split at h'
  ·rename_i nm el
   refine⟨k,nm,rep_str.mp rv,el,fun a ra=>h' _ Hf' H' (Same.refl _) ?_⟩
   refine⟨x'.sr.set_st i rfl ⟨a,rfl,ra⟩,(List.getElem?_set_ne h0).trans x'.sj,x'.h0,x'.hf,fun k t e=>?_,x'.at_⟩
   by_cases hk:i=k
   ·subst hk
    have hl:i<sd.length:=by
     have:=(List.getElem?_eq_some_iff.mp e).1
     simpa using this
    rw[List.getElem?_set_self hl] at e
    cases e
    rfl
   ·rw[List.getElem?_set_ne hk] at e
    exact x'.im k t e
  ·exact h'.elim
 |_=>exact h'.elim
def kCallL (i:Nat)(nm:Str)(F:Dk->List D->KE D)(fs:DSt->M (List D))(sd:DSt)(r:Dk):KE D:=if Xg i nm sd then Xb F fs sd r else .bad
theorem pey_callL {k:Nat}{ps:List Str}{F:Dk->List D->KE D}{x vn nm:Str}{es:List Expr}{fs:DSt->M (List D)}(i:Nat)(c:ClY X.prog X.w X.K X.mg X.base C k nm ps F)(hr:Room k X.A)(ho:Xl (CX1 X.prog X.w) X E)(ha:PAd X E es fs)(hNi:X.N[i]?=some x:=by rfl)(hvi:Vis X.env.scope x:=by first|exact Or.inl rfl|exact Or.inr (Or.inl rfl)|exact Or.inr (Or.inr rfl)) (hdi:(x==("__debug__" : Str))=false:=by decide) (hcdi:(x==("__classdict__" : Str))=false:=by decide)
  (hN:X.N[j]?=some vn:=by rfl) (hv:Vis X.env.scope vn:=by first|exact Or.inl rfl|exact Or.inr (Or.inl rfl)|exact Or.inr (Or.inr rfl)) (hd:(vn==("__debug__" : Str))=false:=by decide) (hcd:(vn==("__classdict__" : Str))=false:=by decide)
  (he:starEach (.Name vn p2::es) X.env=(false,eval (.Name vn p2) X.env)::starEach es X.env:=by rfl) (hpl:(backTo pos (starEach es X.env)).any (·.1)=false:=by rfl) :
  PEy X E C j (.Call (.Name x p) (.Name vn p2::es) [] pos) (kCallL i nm F fs):=by
 obtain⟨f,fd,G,b,kp,m,hn⟩:=c.ex
 obtain⟨t,pt,qt⟩:=ha
 refine⟨_,pe_callL (dvs:=[]) (E:=E) G hr hNi hvi kp b .nil ho (Qp (Z8 hN hv hd hcd) pt he) hdi hcdi he hpl,fun a H0 B Hf sd σ H r Q x h=>?_⟩
 unfold kCallL at h
 split at h
 case isFalse=>exact h.elim
 rename_i hi
 refine⟨isFnS_ok x.sr hi hn,.ref a,x.sj,qt H0 B Hf sd σ H _ x.sr ?_⟩
 unfold Xb at h
 match efs:fs sd,h with
 |.ok ds,h =>
  intro vs Hf1 H1 g rs
  have y:=x.gr g
  obtain⟨pp,e0,da⟩:=y.at_
  exact⟨Hf1,a,pp,r,ds,vs,List.append_nil _,y.sr.sub,y.hf,da,rs,PoE.call y e0 (PoE.weak g.fz (show PoE X.K E C j a H0 B (rD X.K) Hf sd σ (F r ds) Q from h))⟩
 |.ex z,h=>exact fun c dx Hf' H' g rv=>h c dx Hf' H' g.fz (x.gr g).fin rv
end
def PoT (K:Frag)(Hf H:Hp)(r:M (List Str))(Q:VK)(E:XK):Prop:=match r with
 |.ok ws=>∀T,tupB K T (ws.map V.str)=true->Q (.ref T) H
 |.ex x=>∀c dx Hf' H',Gr Hf H Hf' H'->RepX K Hf' H' x c dx->E c dx H'
 |.bad=>False
def spT (K:Frag)(F:List D->M (List Str)):Sp:=fun vs H Q E=>∃Hf ds,Same Hf H/\Reps K Hf ds vs/\PoT K Hf H (F ds) Q E
def fForm (c:Str)(hide:Str)(kvs:List (Str×Option (List Str))):List D->M (List Str)
 |[.str k,.int n]=>if hasG kvs k then(match lookG kvs k with
  |some (some ws)=>if k=hide then .bad else if(ws.length:Int)=n then .ok ws else .ex ⟨c,[],[]⟩
  |_=>.bad) else .ex ⟨c,[],[]⟩
 |_=>.bad
theorem reps_texts {K:PySem.W.Frag}{Hf:Hp}:∀(ws:List Str),Reps K Hf (ws.map D.str) (ws.map V.str)
 |[]=>Reps.nil
 |w::r=>Reps.cons (rep_str.mpr rfl) (reps_texts r)
section
variable {X:Cx} {E:XK}
theorem pss_form {c hide x:Str}{first count form:Str}{kvs:List (Str×Option (List Str))}{bad:List Stmt}{p1 p2 p3 p4 p5 p6 p7 p8 p9 p10 p11 p12 p13 p14 p15 p16 p17 p18 p19 p20 p21 p22 p23 p24 p25 p26 p27:Pos}{kk:Nat}(d:DkG X.w X.K X.mg (txIs X.K) x kvs)(xq:Xq X.K X.mg c)(o:Out X E)(hc:X.calm=true)(hN:X.N.Nodup) (z:X.mg "len" = none)
  (h0:X.N[0]?=some first:=by rfl) (h1:X.N[1]?=some count:=by rfl) (h2:X.N[2]?=some form:=by rfl)
  (v0:Vis X.env.scope first:=by first|exact Or.inl rfl|exact Or.inr (Or.inl rfl)|exact Or.inr (Or.inr rfl)) (v1:Vis X.env.scope count:=by first|exact Or.inl rfl|exact Or.inr (Or.inl rfl)|exact Or.inr (Or.inr rfl)) (v2:Vis X.env.scope form:=by first|exact Or.inl rfl|exact Or.inr (Or.inl rfl)|exact Or.inr (Or.inr rfl))
  (hd0:(first==("__debug__" : Str))=false:=by decide) (hd1:(count==("__debug__" : Str))=false:=by decide) (hd2:(form==("__debug__" : Str))=false:=by decide) (hcd0:(first==("__classdict__" : Str))=false:=by decide) (hcd1:(count==("__classdict__" : Str))=false:=by decide) (hcd2:(form==("__classdict__" : Str))=false:=by decide)
  (hg:Gl X x:=by rfl) (hd:(x==("__debug__" : Str))=false:=by decide) (hgc:Gl X c:=by rfl) (hdc:(c==("__debug__" : Str))=false:=by decide) (hgl:Gl X "len" := by rfl)
  (hx:Loc X.env.scope form:=by first|exact Or.inl rfl|exact Or.inr rfl) (hsw:swapsWith (.Subscript (.Name x p9) (.Name first p10) p11) (some (.Name form p8)) p12.line X.env=pure false:=by rfl) (hf:X.fn form=true\/X.env.scope.names.lookup form=some .local:=by first|exact .inl rfl|exact .inr rfl|assumption)
  (he:starEach [.Name form p18] X.env=(false,eval (.Name form p18) X.env)::starEach [] X.env:=by rfl) (hpl:(backTo p19 (starEach [] X.env)).any (·.1)=false:=by rfl) (hs:NoSl (.Name first p10):=by exact fun _ _=>rfl) :
  ∃t,PSs X [.If (.Compare (.Name first p1) [.NotIn] [.Name x p2] p3) [.Raise (some (.Call (.Name c p4) [] [] p5)) none p6] [] p7,
   .Assign [.Name form p8] (.Subscript (.Name x p9) (.Name first p10) p11) p12,
   .If (.Compare (.Name first p13) [.Eq] [.Constant (.str hide) kk p14] p15) bad [] p16,
   .If (.Compare (.Call (.Name "len" p17) [.Name form p18] [] p19) [.NotEq] [.Name count p20] p21) [.Raise (some (.Call (.Name c p25) [] [] p26)) none p22] [] p23,
   .Return (some (.Name form p24)) p27] t/\∀D σ H Hf k n,Same Hf H->σ[0]?=some (some (.str k))->σ[1]?=some (some (.int n))->σ.length=3->PoT X.K Hf H (fForm c hide kvs [.str k,.int n]) D.rt E->t D σ H:=by
 obtain⟨C,ya,mc,ye,yp⟩:=xq.ex
 have rz:=fun {np pos cpos:Pos}=>ps_raise0 (pos:=pos) (np:=np) (cpos:=cpos) o hc (xp_of ye) yp hgc mc hdc
 refine⟨_,pss_cons (ps_if (pt_cmp (pe_ninG d (Z8 h0 v0 hd0 hcd0) hg hd) rfl) (pss_one rz) pss_nil)
  (pss_cons (ps_set hN h2 hx (pe_ixG d (Z8 h0 v0 hd0 hcd0) hs hg hd) hsw hf)
  (pss_cons (ps_if (pt_cmpR op_eq (Z8 h0 v0 hd0 hcd0) pe_str (Zq _)) pss_never pss_nil)
  (pss_cons (ps_if (pt_cmpR op_ne (pe_callB (id := "len") call_len_seq hgl z rfl (Qp (Z8 h2 v2 hd2 hcd2) Y7 he) (by decide) (by decide) he hpl) (Z8 h1 v1 hd1 hcd1) (Zq _)) (pss_one rz) pss_nil)
  (pss_one (ps_ret (Z8 h2 v2 hd2 hcd2)))))),fun D σ H Hf k n sm s0 s1 sl h=>?_⟩
 refine⟨_,s0,k,rfl,_,rfl,?_⟩
 unfold fForm at h
 dsimp only at h
 cases eh:hasG kvs k with
 |false =>
  rw[eh,if_neg Bool.false_ne_true] at h
  exact h (.ref C) none Hf H (Gr.refl sm) ⟨C,[],rfl,ya,⟨rfl,rfl⟩,Reps.nil⟩
 |true =>
  rw[eh,if_pos rfl] at h
  rw[if_neg (by decide)]
  have hl3:(2:Nat)<σ.length:=by rw[sl];decide
  split at h
  ·rename_i ws el
   split at h
   ·exact h.elim
   ·rename_i hh
    show tSeq _ _ D σ H
    refine⟨_,s0,k,ws,rfl,el,fun a ra=>?_⟩
    have t0:(σ.set 2 (some (V.ref a)))[0]?=some (some (.str k)):=(List.getElem?_set_ne (by decide)).trans s0
    have t1:(σ.set 2 (some (V.ref a)))[1]?=some (some (.int n)):=(List.getElem?_set_ne (by decide)).trans s1
    have t2:(σ.set 2 (some (V.ref a)))[2]?=some (some (.ref a)):=List.getElem?_set_self hl3
    show tSeq _ _ D (σ.set 2 (some (V.ref a))) H
    refine⟨_,t0,rfl,_,rfl,?_⟩
    have ne:¬V.str k=V.str hide:=fun q=>hh (by cases q;rfl)
    rw[decide_eq_false ne]
    dsimp only
    rw[if_neg (by decide)]
    show tSeq _ _ D (σ.set 2 (some (V.ref a))) H
    refine⟨_,t2,a,ws.map V.str,rfl,.inr (tupB_sq ra).1,_,t1,rfl,_,rfl,?_⟩
    rw[List.length_map]
    split at h
    ·rename_i en
     have:V.int (ws.length:Int)=V.int n:=by rw[en]
     rw[decide_eq_true this]
     dsimp only
     rw[if_neg (by decide)]
     exact⟨_,t2,h a ra⟩
    ·rename_i en
     have:¬V.int (ws.length:Int)=V.int n:=fun q=>en (by cases q;rfl)
     rw[decide_eq_false this]
     dsimp only
     rw[if_pos (by decide)]
     exact h (.ref C) none Hf H (Gr.refl sm) ⟨C,[],rfl,ya,⟨rfl,rfl⟩,Reps.nil⟩
  ·exact h.elim
theorem fn_form {P:Program}{w:World}{K:PySem.W.Frag}{mg:Str->Option Value}{base:Heap}{x qual c hide:Str}{st:Stmt}{f:Addr}{fd:FuncData}{N ps:List Str}{k:Nat}{kvs:List (Str×Option (List Str))}(F:Fun K x qual st f fd)(sc:FnScope N ps (Zg st))(hn:ps.length=2)(hN:N.length=3)(hbody:∀(cdv:Value) (A:Around) (outer:List Env) (s:Shared) (H:Hp) (E:XK),Room k (A.deeper (envOfC qual (Zg st) s.heap.objs.size f cdv)) ->
   ∃t,PSs (cxOf (CX1 P w) P w K mg base N qual (Zg st) f cdv A outer s H E) (Z7 st) t/\∀(D:Ends) σ H Hf k n,Same Hf H->σ[0]?=some (some (.str k))->σ[1]?=some (some (.int n))->σ.length=3->PoT K Hf H (fForm c hide kvs [.str k,.int n]) D.rt E->t D σ H) :
  FnOk P w K mg base (CX1 P w) (k+1) f fd ps (spT K (fForm c hide kvs)):=by
 obtain⟨oc,od,kV,doc,pm,an,cdv,ct,osl,rfl,lk,hcd⟩:=F.ex
 have shape:∀{ds:List D} {Hf H:Hp} {Q:VK} {E:XK},PoT K Hf H (fForm c hide kvs ds) Q E->∃k n,ds=[.str k,.int n]:=fun {ds Hf H Q E} h=>by
  unfold fForm at h
  split at h
  ·exact⟨_,_,rfl⟩
  ·exact h.elim
 refine fn_of lk hcd sc (fun vs H Q E h=>?_) (fun A outer s H vs Q E hr h=>?_)
 ·obtain⟨Hf,ds,e,r,hF⟩:=h
  obtain⟨k,n,rfl⟩:=shape hF
  rw[<-r.length,hn]
  rfl
 ·obtain⟨Hf,ds,e,r,q⟩:=h
  obtain⟨t,p,qt⟩:=hbody cdv A outer s H E hr
  obtain⟨k,n,rfl⟩:=shape q
  obtain⟨v1,v2,rfl,r1,r2⟩:=reps2 r
  have e1:=rep_str.mp r1
  have e2:=rep_int.mp r2
  subst e1 e2
  exact⟨t,p,qt _ _ H Hf k n e rfl rfl (by unfold L2.Xe;simp[hN]) q⟩
structure ClT (P:Program) (w:World) (K:Frag) (mg:Str->Option Value) (base:Heap) (n:Nat) (x:Str) (ps:List Str) (F:List D->M (List Str)):Prop where
 ex:∃f fd,FnOk P w K mg base (CX1 P w) n f fd ps (spT K F)/\Binds K fd ps []/\keepIn K (.ref f)=true/\mg x=some (.ref f)
def iZipT (f1:DSt->M D)(F:List D->M (List Str))(fs:DSt->M (List D))(sd:DSt):M (List D):=(f1 sd).bind fun d=>match d with
 |.lst ds=>(fs sd).bind fun as=>(F as).bind fun ws=>.ok (zipD ds (ws.map .str))
 |_=>.bad
theorem pid_zipT {k kk:Nat}{es:List Expr}{l a1:Expr}{as:List Expr}{x:Str}{ps:List Str}{F:List D->M (List Str)}{f1:DSt->M D}{fs:DSt->M (List D)}{p p2 p3 pos cpos:Pos}(c:ClT X.prog X.w X.K X.mg X.base k x ps F)(hr:Room k X.A)(ho:Out X E) (z:X.mg "zip" = none) (h1:PEd X E l f1) (h2:PAd X E (a1::as) fs)
  (hg:Gl X "zip" := by rfl) (hgx:Gl X x:=by rfl) (hdb:(x==("__debug__" : Str))=false:=by decide)
  (he:starEach (a1::as) X.env=(false,eval a1 X.env)::starEach as X.env:=by rfl) (hpl:(backTo cpos (starEach as X.env)).any (·.1)=false:=by rfl)
  (hs:starEach [l,.Call (.Name x p3) (a1::as) [] cpos] X.env=[(false,eval l X.env),(false,eval (.Call (.Name x p3) (a1::as) [] cpos) X.env)]:=by rfl) (hs2:starEach [.Call (.Name x p3) (a1::as) [] cpos] X.env=[(false,eval (.Call (.Name x p3) (a1::as) [] cpos) X.env)]:=by rfl) :
  PId X E (.Tuple es kk p2) (.Call (.Name "zip" p) [l,.Call (.Name x p3) (a1::as) [] cpos] [] pos) (iZipT f1 F fs):=by
 obtain⟨f,fd,G,b,kp,m⟩:=c.ex
 obtain⟨t1,pt1,q1⟩:=h1
 obtain⟨t2,pt2,q2⟩:=h2
 refine⟨_,pi_zipG false true hg z (Qp pt1 (Qp (pe_call (dvs:=[]) (E:=E) G hr hgx m kp b .nil ho.passes pt2 hdb he hpl) Y7 hs2) hs) hs hs2,fun H0 B Hf sd σ H R sr h=>?_⟩
 refine q1 H0 B Hf sd σ H _ sr (Po.bind h fun d v Hf1 H1 _ g1 rv h1=>?_)
 cases d with
 |lst ds =>
  obtain⟨a,xs,rfl,ha,hr'⟩:=rep_lst.mp rv
  refine q2 H0 B Hf1 sd σ H1 _ (sr.gr g1) (Po.bind h1 fun as vs Hf2 H2 _ g2 rs h2=>?_)
  refine⟨Hf2,as,g2.sub,by rw[List.append_nil];exact rs,?_⟩
  match F as,h2 with
  |.ok ws,h2 =>
   intro T hT
   have ha2:SqL X.K Hf2 a xs:=g2.fz.seq ha
   have hb2:SqT X.K Hf2 T (ws.map V.str):=(tupB_sq hT).1
   exact⟨a,T,rfl,⟨xs,sqg_same (t:=false) g2.sub ha2⟩,⟨_,sqg_same (t:=true) g2.sub hb2⟩,Po.ret (R:=ItOk X.K) g2.sub h2 (itg_ok (t1:=false) (t2:=true) ha2 (hr'.mono g2.fz) hb2 (reps_texts ws))⟩
  |.ex z,h2=>exact h2
 |_=>exact h1.elim
end
end DL
namespace DL
open PySem PySem.Spec PySem.Calls PySem.Builtin PySem.Builtin.ObjectAttr PyProof.Rows L2 PySem.W
structure Miss (K:Frag) (C D:Addr):Prop where
 sub:subIn K (.ref C) (.ref D)=some false
 exc:subIn K (.ref D) (.type "BaseException")=some true
 ty:typeIn K (.ref D)=some (.type "type")
 tt:instIn K (.ref D) (.type "type")=some true
 nt:instIn K (.ref D) (.type "tuple")=some false
def missB (K:Frag)(C D:Addr):Bool:=subIn K (.ref C) (.ref D)==some false&&subIn K (.ref D) (.type "BaseException")==some true&&typeIn K (.ref D)==some (.type "type")&&instIn K (.ref D) (.type "type")==some true&&instIn K (.ref D) (.type "tuple")==some false
theorem miss_of {K:Frag}{C D:Addr}(h:missB K C D=true):Miss K C D:=by
 unfold missB at h
 simp only[Bool.and_eq_true,beq_iff_eq] at h
 exact⟨h.1.1.1.1,h.1.1.1.2,h.1.1.2,h.1.2,h.2⟩
theorem x_miss {M:Model}{A:Around}{E:Value->Shared->Prop}{s:Shared}{K:Frag}{a C D:Addr}{oe:Obj}{Q:Bool->Shared->Prop}(X:K.In s.heap)(h:Miss K C D)(he:s.heap.get? a=some oe)(hc:oe.cls=.ref C)(hq:Q false s) :
  wpAny M A (excMatches (.ref a) (.ref D)) Q E s:=by
 have t1:Looks M s.heap (typeOf (.ref a)) (.ref C):=hc▸(Looks.ld he).andThen .now
 have t2:=looks_subIn (M:=M) X h.sub
 have t3:=looks_subIn (M:=M) X h.exc
 have t4:=looks_instIn (M:=M) X h.nt
 have t5:=looks_instIn (M:=M) X h.tt
 have hD:∃oc od cd sl,s.heap.get? D=some ⟨oc,od,.cls cd,sl⟩:=by
  obtain⟨cd,q,_⟩:=Option.bind_eq_some_iff.mp (show mroIn K D (.type "BaseException")=some true from h.exc)
  unfold clsIn at q
  split at q
  ·rename_i ho
   exact⟨_,_,_,_,X _ _ ho⟩
  ·cases q
 obtain⟨oc,od,cd,sl,hD⟩:=hD
 obtain⟨hp,g,d,tk,os⟩:=s
 unfold excMatches
 repeat (first|with_reducible refine t1.here ?_|with_reducible refine t2.here ?_|with_reducible refine t3.here ?_|with_reducible refine t4.here ?_|with_reducible refine t5.here ?_|with_reducible refine wpAny_loadPart_at hD ?_|wp_step)
 exact hq
def kTry2 (i:Nat)(F:Dk->List D->KE D)(fs:DSt->M (List D))(c1 w1 c2 w2:Str)(sd:DSt)(r:Dk):KE KO:=match fs sd with
 |.ok ds=>(match F r ds with
  |.ok d r'=>.ok (.nx (sd.set i (some (.im d)))) r'
  |.ex z r'=>if z.cls=c1 then .ok (.rt (.str w1)) r' else if z.cls=c2 then .ok (.rt (.str w2)) r' else .bad
  |.bad=>.bad)
 |_=>.bad
structure X2 (K:Frag) (mg:Str->Option Value) (c1 c2:Str):Prop where
 ex:∃C1 C2:Addr,nsIn K mainGlobals c1=some (some (.ref C1))/\nsIn K mainGlobals c2=some (some (.ref C2))/\mg c1=some (.ref C1)/\mg c2=some (.ref C2)/\hitsB K C1 C1=true/\missB K C2 C1=true/\hitsB K C2 C2=true
theorem x2_mk {K:Frag}{h:Heap}{mg:Str->Option Value}{c1 c2:Str}{C1 C2:Addr}(X:K.In h)(G:h.Ns mainGlobals mg)(y1:nsIn K mainGlobals c1=some (some (.ref C1)))(y2:nsIn K mainGlobals c2=some (some (.ref C2)))(h1:hitsB K C1 C1=true)(h2:missB K C2 C1=true)(h3:hitsB K C2 C2=true):X2 K mg c1 c2:=⟨_,_,y1,y2,mg_of X G y1,mg_of X G y2,h1,h2,h3⟩
section
variable {X:Cx} {E:XK} {C:Addr} {j:Nat}
theorem psy_try2 (i:Nat){pl:Sem Bool}{k:Nat}{f:Addr}{fd:FuncData}{ps:List Str}{F:Dk->List D->KE D}{m vn y c1 c2 w1 w2:Str}{e₁:Expr}{es:List Expr}{fs:DSt->M (List D)}{p py apos cpos spos pos q1 q2 q3 q4 q5 q6 q7 q8:Pos}{k1 k2:Nat}(cls:Cls X.K C)(hm:Meth X.K C m f)(G:FnOk X.prog X.w X.K X.mg X.base (CX1 X.prog X.w) k f fd ps (spY X.K C F))(hb:Binds X.K fd ps [])(hr:Room k X.A)(x2:X2 X.K X.mg c1 c2)(hN:X.N.Nodup)(ha:PAd X.nox E0 (e₁::es) fs)(hij:i≠j:=by decide)
  (hm1:m ≠ "hall" := by decide) (hm2:m ≠ "people" := by decide)
  (hNj:X.N[j]?=some vn:=by rfl) (hv:Vis X.env.scope vn:=by first|exact Or.inl rfl|exact Or.inr (Or.inl rfl)|exact Or.inr (Or.inr rfl)) (hd:(vn==("__debug__" : Str))=false:=by decide) (hcd:(vn==("__classdict__" : Str))=false:=by decide)
  (hi:X.N[i]?=some y:=by rfl) (hx:Loc X.env.scope y:=by first|exact Or.inl rfl|exact Or.inr rfl) (hf:X.fn y=true\/X.env.scope.names.lookup y=some .local:=by first|exact .inl rfl|exact .inr rfl)
  (hg1:Gl X c1:=by rfl) (hg2:Gl X c2:=by rfl) (hd1:(c1==("__debug__" : Str))=false:=by decide) (hd2:(c2==("__debug__" : Str))=false:=by decide) (hst:X.stack=X.env::X.outer:=by rfl) (hfr:X.env.frame=some X.env.locals:=by rfl)
  (hsw:swapsWithSole [.Name y py] (.Call (.Attribute (.Name vn p) m apos) (e₁::es) [] cpos) spos.line X.env=pure false:=by rfl) (hsx:swappedStores [.Name y py] (.Call (.Attribute (.Name vn p) m apos) (e₁::es) [] cpos) X.env=pure none:=by rfl)
  (h1t:(assignEach [.Name y py] X.env).map (·.2)=[assign (.Name y py) X.env]:=by rfl)
  (hst2:starEach (e₁::es) X.env=(false,eval e₁ X.env)::starEach es X.env:=by rfl) (hpl:(backTo cpos (starEach es X.env)).any (·.1)=false:=by rfl)
  (ht:eval (.Call (.Attribute (.Name vn p) m apos) (e₁::es) [] cpos) X.env=(do
   let ov <-eval (.Name vn p) X.env
   standAt apos.atName
   let (f,first) <-holding [ov] (getMethod ov m pl)
   callWith cpos f first (backTo cpos (starEach (e₁::es) X.env)) (backToKw cpos (keywordEach [] X.env))):=by rfl) :
  PSy X E C j (.Try [.Assign [.Name y py] (.Call (.Attribute (.Name vn p) m apos) (e₁::es) [] cpos) spos] [.ExceptHandler (some (.Name c1 q1)) none [.Return (some (.Constant (.str w1) k1 q2)) q3] q4,.ExceptHandler (some (.Name c2 q5)) none [.Return (some (.Constant (.str w2) k2 q6)) q7] q8] [] [] pos) (kTry2 i F fs c1 w1 c2 w2):=by
 refine⟨fun D' σ H=>∃a H0 B Hf sd r,KSt X.K C j a H0 B Hf sd σ H r/\PoY X.K E C j a H0 B Hf (kTry2 i F fs c1 w1 c2 w2 sd r) D',?_,fun a H0 B Hf sd σ H r D' x h=>⟨a,H0,B,Hf,sd,r,x,h⟩⟩
 rintro pins s σ H D' I ⟨a,H0,B,Hf,sd,r,x,po⟩
 obtain⟨ta,pa,qa⟩:=ha
 obtain⟨C1,C2,n1,n2,mc1,mc2,hh1,hms,hh2⟩:=x2.ex
 refine wpAny_Try_except (wpAny_execs_cons (wpAny_Assign_stores ?_ hsw hsx))
 have hdesk:=Z8 (X:=X.nox) (pos:=p) hNj hv hd hcd pins s σ H (fun v H'=>v=.ref a/\H'=H) (I.wish _) ⟨_,x.sj,rfl,rfl⟩
 refine PySem.W.methodCall_KW (pl:=pl) (wpAny_mono hdesk (fun u s0 h0=>?_) fun _ _ z=>False.elim z) ht
 obtain⟨v0,H',I0',rv0,rfl,rfl⟩:=h0
 have I0:Inv X pins σ H' s0:=I0'.unwish
 obtain rfl:u=Value.ref a:=rv0
 obtain⟨p0,e0,dx0,vh,ys,e1,_⟩:=id x.at_
 have hl:List.lookup m [(("hall" : Str),vh),("people", V.ref p0)]=none:=by
  have z1:(m==("hall" : Str))=false:=beq_eq_false_iff_ne.mpr hm1
  have z2:(m==("people" : Str))=false:=beq_eq_false_iff_ne.mpr hm2
  simp only[List.lookup,z1,z2]
 refine getmeth_ok I0 e1 cls hm hl ?_
 unfold kTry2 at po
 split at po
 case h_2=>exact po.elim
 rename_i ds ef
 have hargs:=pa cpos pins s0 σ H' (fun vs H1=>∃Hf1,Gr Hf H' Hf1 H1/\Reps X.K Hf1 ds vs) (I0.wish _) (qa H0 B Hf sd σ H' _ x.sr (by
  rw[ef]
  exact fun vs Hf1 H1 g1 rs=>⟨Hf1,g1,rs⟩))
 refine PySem.W.callWith_K (first:=[.ref a]) (h₀:=X.base) I.ok.mod.kin hm.kp (wpAny_mono hargs (fun us s1 h1=>?_) fun _ _ z=>False.elim z) hst2 hpl
 obtain⟨vs,H1,I1',rr,Hf1,g1,rs⟩:=h1
 have I1:Inv X pins σ H1 s1:=I1'.unwish
 refine⟨I1.kIn,?_⟩
 have x1:=x.gr g1
 obtain⟨pp,e0',da⟩:=x1.at_
 have nb:F r ds≠.bad:=fun z=>by rw[z] at po;exact po
 have hsp:spY X.K C F (.ref a::vs) H1 (fun v H2=>∃d r' Hf2,F r ds=.ok d r'/\Same Hf1 Hf2/\KEnd X.K C a (rm2 H1 a pp) (bn2 H1 a pp Hf1) Hf2 H2 r'/\Rep X.K Hf2 d v) (fun c dx H2=>∃z r' Hf2,F r ds=.ex z r'/\Same Hf1 Hf2/\KEnd X.K C a (rm2 H1 a pp) (bn2 H1 a pp Hf1) Hf2 H2 r'/\RepX X.K Hf2 H2 z c dx):=by
  refine⟨Hf1,a,pp,r,ds,vs,rfl,x1.sr.sub,x1.hf,da,rs,?_⟩
  cases e:F r ds with
  |ok d r'=>exact fun v Hf' H' s k q=>⟨d,r',Hf',rfl,s,k,q⟩
  |ex z r'=>exact fun c dx Hf' H' s k q=>⟨z,r',Hf',rfl,s,k,q⟩
  |bad=>exact nb e
 have rr2:Vals (.ref a::vs) (.ref a::us):=.cons rfl rr
 have hl2:((Value.ref a::us)++[]).length=ps.length:=by rw[List.append_nil,<-rr2.length];exact G.len _ _ _ _ hsp
 have bnd:=hb s1 (.ref a::us) I1.kIn hl2
 rw[List.append_nil] at bnd
 refine wpAny_call (codeAny_mono (G.run X.A X.stack s1 H1 ⟨.ref a::us,[]⟩ (.ref a::us) (.ref a::vs) _ _ hr I1.env0 bnd rr2 hsp) fun rr s' hq=>?_)
 cases rr with
 |ok fl =>
  cases fl with
  |next=>exact False.elim hq
  |brk=>exact False.elim hq
  |cont=>exact False.elim hq
  |ret u =>
   obtain⟨v,H2,I2,rv,d,r',Hf2,eF,s2,k2',q2⟩:=I1.after hq
   rw[eF] at po
   rw[h1t]
   have st:=pg_name (X:=X.nox) (pos:=py) hN hi hx hf pins s' σ H2 v u (fun σ' H'=>H'=H2/\σ'=σ.set i (some v)) (I2.wish _) rv ⟨rfl,rfl⟩
   refine wpAny_mono st (fun _ s9 h9=>?_) fun _ _ z=>False.elim z
   obtain⟨σ9,H9,I9',e9,e10⟩:=h9
   subst e9 e10
   have I9:Inv X pins _ _ s9:=I9'.unwish
   exact wpAny_execs_nil (wpAny_execs_nil ⟨_,_,I9,po _ Hf2 _ (g1.fz.trans s2) ((x1.back e0' s2 k2').set i hij q2)⟩)
 |error e =>
  obtain⟨b,H2,cl,dx,T,rfl,os,bare,un,hok,hnt,na,nT,za,zT,z,r',Hf2,eF,s2,k2',Cx,xs,rfl,hcn,hxf,hrs⟩:=hq
  rw[eF] at po
  dsimp only at po
  have I2:Inv X pins σ H2 s':=I1.call' os un hok bare (fun b z=>absurd z (by simp))
  have fa:=fresh_of I1 za
  have fT:=fresh_of I1 zT
  have xe:=(x1.back e0' s2 k2').fin
  show wpAny (model X.prog X.w) X.A (noteFrame (.ref b) X.env) _ _ s'
  refine note_at (base:=X.base) (outer:=X.outer) (by rw[<-hst];exact I2.ok.frames) (hst▸I2.stack) hfr hnt fun h3 T3 z3 n3 ne3 c3=>?_
  rw[<-hst] at c3
  have I3:Inv X pins σ H2 { s' with heap:=h3 }:=inv_ch I2 c3 na nT fa fT
  have fT3:Fresh X pins T3:=fresh_of I2 z3
  have nT3:H2 T3=none:=I2.hok.fresh z3
  refine flight_at (s:={ s' with heap:=h3 }) n3 ne3 fun h4 sz4 n4 o4=>?_
  have I4:Inv X pins σ H2 { s' with heap:=h4 }:=inv_ch (s:={ s' with heap:=h3 }) (h':=h4) (a:=b) (T:=T3) I3 ⟨fun b' o _ m2 _ q=>(o4 b' m2).trans q,fun b' o _ m2 q=>⟨o.slots,(o4 b' m2).trans q⟩⟩ na nT3 fa fT3
  have suite:∀{w:Str} {kk:Nat} {qa qb:Pos},(∀v Hf' H',Same Hf Hf'->KEnd X.K C a H0 B Hf' H' r'->Rep X.K Hf' (.str w) v->D'.rt v H') ->
    wpAny (model X.prog X.w) (X.A.mark (some (.ref b))) (setFlight (.ref b) none) (fun _ s₁=>wpAny (model X.prog X.w) (X.A.mark (some (.ref b))) (execs [.Return (some (.Constant (.str w) kk qa)) qb] X.env) (fun f s₂=>SP X pins D' f s₂) (fun _ _=>False) s₁) (fun _ _=>False) { s' with heap:=h4 }:=fun {w kk qa qb} hw=>by
   refine flight_at (s:={ s' with heap:=h4 }) n4 ne3 fun h5 sz5 n5 o5=>?_
   have I5:Inv X pins σ H2 { s' with heap:=h5 }:=inv_ch (s:={ s' with heap:=h4 }) (h':=h5) (a:=b) (T:=T3) I4 ⟨fun b' o _ m2 _ q=>(o5 b' m2).trans q,fun b' o _ m2 q=>⟨o.slots,(o5 b' m2).trans q⟩⟩ na nT3 fa fT3
   have run:=pss_one (ps_ret (X:=sui X (.ref b)) (pos:=qb) (pe_str (j:=kk) (pos:=qa) (x:=w))) pins _ σ H2 { nx:=fun _ _=>False,rt:=fun v H'=>v=.str w/\H'=H2 } (inv_sui (e:=.ref b) I5) ⟨rfl,rfl⟩
   refine wpAny_mono run (fun fl s7 h7=>?_) fun _ _ z=>z
   cases fl with
   |next=>obtain⟨_,_,_,q⟩:=h7;exact q.elim
   |ret u =>
    obtain⟨v,σ',H',I8,rv,rfl,rfl⟩:=h7
    exact⟨_,σ',_,inv_back I4.ok I8,rv,hw _ Hf2 _ (g1.fz.trans s2) xe (rep_str.mpr rfl)⟩
   |brk=>obtain⟨_,_,_,q⟩:=h7;exact q.elim
   |cont=>obtain⟨_,_,_,q⟩:=h7;exact q.elim
  refine wpAny_handleBy_cons (codeAny_handlers_test ?_) (by intro q;cases q)
  refine ld_glob (inv_sui (e:=.ref b) I4) hg1 mc1 ?_ hd1
  obtain⟨oe,ws,z1,z2,_⟩:=id n4
  by_cases hc1:z.cls=c1
  ·rw[if_pos hc1] at po
   have:Cx=C1:=by rw[hc1,n1] at hcn;cases hcn;rfl
   subst this
   refine x_hits (K:=X.K) I4.kIn (hits_of hh1) z1 z2 ?_
   exact codeAny_handlers_suite (wpAny_mono (suite po) (fun _ s8 h8=>wpAny_mono h8 (fun _ _ z=>z) fun _ _ z=>False.elim z) fun _ _ z=>False.elim z)
  ·rw[if_neg hc1] at po
   by_cases hc2:z.cls=c2
   ·rw[if_pos hc2] at po
    have:Cx=C2:=by rw[hc2,n2] at hcn;cases hcn;rfl
    subst this
    refine x_miss (K:=X.K) I4.kIn (miss_of hms) z1 z2 ?_
    refine wpAny_handleBy_cons (codeAny_handlers_test ?_) (by intro q;cases q)
    refine ld_glob (inv_sui (e:=.ref b) I4) hg2 mc2 ?_ hd2
    refine x_hits (K:=X.K) I4.kIn (hits_of hh2) z1 z2 ?_
    exact codeAny_handlers_suite (wpAny_mono (suite po) (fun _ s8 h8=>wpAny_mono h8 (fun _ _ z=>z) fun _ _ z=>False.elim z) fun _ _ z=>False.elim z)
   ·rw[if_neg hc2] at po
    exact po.elim
end
def spDk (K:Frag)(C:Addr)(F:List D->M S):Sp:=fun vs H Q _=>∃a dx Hf d,vs=[.ref a]/\H a=some (.ins C dx [])/\Same Hf H/\Hf a=none/\F [.int 1,.int 1]=.ok (.im d) /\
 ∀Hf1 H1 v p,Gr Hf H Hf1 H1->Rep K Hf1 d v->p≠a->H1 p=none->Q .non (upd (upd (upd H1 a (.ins C dx [("hall", v)])) p (.dK [])) a (.ins C dx [("hall", v),("people", .ref p)]))
section
variable {X:Cx} {E:XK} {C:Addr}
theorem pss_desk {k:Nat}{f:Addr}{fd:FuncData}{ps:List Str}{F:List D->M S}{vn x:Str}{p1 p2 p3 p4 p5 p6 p7 p8 p9 p10 p11:Pos}{j1 j2:Nat}(cl:Cls X.K C) (n1:NoAttr X.K C "hall") (n2:NoAttr X.K C "people")
  (G:FnOk X.prog X.w X.K X.mg X.base CX0 k f fd ps (spN X.K F)) (hr:Room k X.A) (hm:X.mg x=some (.ref f)) (hk:keepIn X.K (.ref f)=true) (hb:Binds X.K fd ps [])
  (hN:X.N[0]?=some vn:=by rfl) (hv:Vis X.env.scope vn:=by first|exact Or.inl rfl|exact Or.inr (Or.inl rfl)|exact Or.inr (Or.inr rfl)) (hd:(vn==("__debug__" : Str))=false:=by decide) (hcd:(vn==("__classdict__" : Str))=false:=by decide)
  (hg:Gl X x:=by rfl) (hdb:(x==("__debug__" : Str))=false:=by decide)
  (he:starEach [.Constant (.int 1) j1 p4,.Constant (.int 1) j2 p5] X.env=(false,eval (.Constant (.int 1) j1 p4) X.env)::starEach [.Constant (.int 1) j2 p5] X.env:=by rfl) (hpl:(backTo p6 (starEach [.Constant (.int 1) j2 p5] X.env)).any (·.1)=false:=by rfl)
  (he2:starEach [.Constant (.int 1) j2 p5] X.env=(false,eval (.Constant (.int 1) j2 p5) X.env)::starEach [] X.env:=by rfl)
  (hs1:swapsWith (.Call (.Name x p3) [.Constant (.int 1) j1 p4,.Constant (.int 1) j2 p5] [] p6) (some (.Attribute (.Name vn p1) "hall" p2)) p7.line X.env=pure false:=by rfl)
  (hs2:swapsWith (.Dict [] [] p10) (some (.Attribute (.Name vn p8) "people" p9)) p11.line X.env=pure false:=by rfl) :
  ∃t,PSs X [.Assign [.Attribute (.Name vn p1) "hall" p2] (.Call (.Name x p3) [.Constant (.int 1) j1 p4,.Constant (.int 1) j2 p5] [] p6) p7,.Assign [.Attribute (.Name vn p8) "people" p9] (.Dict [] [] p10) p11] t /\
   ∀(D:Ends) σ H a dx Hf d,σ[0]?=some (some (.ref a))->H a=some (.ins C dx [])->Same Hf H->Hf a=none->F [.int 1,.int 1]=.ok (.im d) ->
    (∀Hf1 H1 v p,Gr Hf H Hf1 H1->Rep X.K Hf1 d v->p≠a->H1 p=none->D.nx σ (upd (upd (upd H1 a (.ins C dx [("hall", v)])) p (.dK [])) a (.ins C dx [("hall", v),("people", .ref p)])))->t D σ H:=by
 refine⟨_,pss_cons (ps_fld (Z8 hN hv hd hcd) (pe_call (dvs:=[]) (E:=E0) G hr hg hm hk hb .nil pass0 (Qp pe_int (Qp pe_int Y7 he2) he) hdb he hpl) hs1) (pss_one (ps_fld (Z8 hN hv hd hcd) pe_dnewK hs2)),fun D σ H a dx Hf d s0 ha sm hf eF h=>?_⟩
 refine⟨Hf,[.int 1,.int 1],.im d,sm,Reps.cons (rep_int.mpr rfl) (Reps.cons (rep_int.mpr rfl) Reps.nil),eF,fun v Hf1 H1 g rv=>?_⟩
 have ha1:=g.all _ _ ha
 refine⟨_,s0,a,C,dx,[],rfl,ha1,cl,n1,by decide,fun p hp=>?_⟩
 have hne:p≠a:=fun z=>by rw[z,Zn] at hp;cases hp
 refine⟨_,s0,a,C,dx,[("hall", v)],rfl,(Zj (Ne.symm hne)).trans Zn,cl,n2,(show 1<1000 by decide),?_⟩
 exact h Hf1 H1 v p g rv hne (by rw[Zj hne] at hp;exact hp)
theorem fn_desk {P:Program}{w:World}{K:PySem.W.Frag}{mg:Str->Option Value}{base:Heap}{x qual:Str}{st:Stmt}{f:Addr}{fd:FuncData}{N ps:List Str}{k:Nat}{F:List D->M S}(Fn:Fun K x qual st f fd)(sc:FnScope N ps (Zg st))(hn:ps.length=1)
  (hbody:∀(cdv:Value) (A:Around) (outer:List Env) (s:Shared) (H:Hp) (E:XK),Room k (A.deeper (envOfC qual (Zg st) s.heap.objs.size f cdv)) ->
   ∃t,PSs (cxOf CX0 P w K mg base N qual (Zg st) f cdv A outer s H E) (Z7 st) t/\∀(D:Ends) σ H a dx Hf d,σ[0]?=some (some (.ref a))->H a=some (.ins C dx [])->Same Hf H->Hf a=none->F [.int 1,.int 1]=.ok (.im d) ->
    (∀Hf1 H1 v p,Gr Hf H Hf1 H1->Rep K Hf1 d v->p≠a->H1 p=none->D.nx σ (upd (upd (upd H1 a (.ins C dx [("hall", v)])) p (.dK [])) a (.ins C dx [("hall", v),("people", .ref p)])))->t D σ H) :
  FnOk P w K mg base CX0 (k+1) f fd ps (spDk K C F):=by
 obtain⟨oc,od,kV,doc,pm,an,cdv,ct,osl,rfl,lk,hcd⟩:=Fn.ex
 refine fn_of lk hcd sc (fun vs H Q E h=>?_) (fun A outer s H vs Q E hr h=>?_)
 ·obtain⟨a,dx,Hf,d,rfl,_⟩:=h
  rw[hn]
  rfl
 ·obtain⟨a,dx,Hf,d,rfl,ha,sm,hf,eF,h⟩:=h
  obtain⟨t,p,qt⟩:=hbody cdv A outer s H E hr
  exact⟨t,p,qt _ _ H a dx Hf d rfl ha sm hf eF fun Hf1 H1 v p g rv hne hp=>h Hf1 H1 v p g rv hne hp⟩
theorem sr_hole {K:Frag}{H0 Hf H:Hp}{B:Addr->Prop}{sd:DSt}{σ:L2.St}(r:SR K H0 B Hf sd σ H)(i:Nat)(v:V):SR K H0 B Hf (sd.set i none) (σ.set i (some v)) H:=by
 have bk:∀{j:Nat} {t:S},(sd.set i none)[j]?=some (some t)->i≠j/\sd[j]?=some (some t):=fun {j t} q=>by
  by_cases hj:i=j
  ·subst hj
   have hlt:i<sd.length:=by
    have:=(List.getElem?_eq_some_iff.mp q).1;simpa using this
   rw[List.getElem?_set_self hlt] at q
   cases q
  ·rw[List.getElem?_set_ne hj] at q
   exact⟨hj,q⟩
 refine⟨r.sub,r.all,r.ban,r.bt,by rw[List.length_set,List.length_set];exact r.len,fun j t q z=>?_,fun j t q z=>?_,fun j k t u p hjk q1 o1 q2 o2 q3 q4=>?_⟩
 ·rw[List.getElem?_set_ne (bk q).1];exact r.imS j t (bk q).2 z
 ·rw[List.getElem?_set_ne (bk q).1];exact r.ow j t (bk q).2 z
 ·rw[List.getElem?_set_ne (bk q1).1] at q3
  rw[List.getElem?_set_ne (bk q2).1] at q4
  exact r.sep j k t u p hjk (bk q1).2 o1 (bk q2).2 o2 q3 q4
def noOwn (sd:DSt):Bool:=sd.all fun o=>match o with
 |some t=>!t.own
 |none=>true
def sDesk (j:Nat)(F:List D->M S)(g:DSt->Dk->KE KO)(sd:DSt):M O:=if noOwn sd&&decide (j<sd.length) then(match F [.int 1,.int 1] with
 |.ok (.im d)=>(match g (sd.set j none) ⟨d,[]⟩ with
  |.ok (.rt d') _=>.ok (.rt (.im d'))
  |_=>.bad)
 |_=>.bad) else .bad
theorem psd_desk (j:Nat){k:Nat}{f:Addr}{fd:FuncData}{ps:List Str}{F:List D->M S}{vn x:Str}{rest:List Stmt}{g:DSt->Dk->KE KO}{p pn pos spos:Pos}(M:Mk X.K C f)(G:FnOk X.prog X.w X.K X.mg X.base CX0 k f fd ps (spDk X.K C F))(hr:Room (k+1) X.A)(hm:X.mg x=some (.ref C))(hb:Binds X.K fd ps [])(hN:X.N.Nodup)(h:PSsy X E C j rest g)(hi:X.N[j]?=some vn:=by rfl)(hx:Loc X.env.scope vn:=by first|exact Or.inl rfl|exact Or.inr rfl)(hf:X.fn vn=true\/X.env.scope.names.lookup vn=some .local:=by first|exact .inl rfl|exact .inr rfl|assumption)(hs:swapsWith (.Call (.Name x p) [] [] pos) (some (.Name vn pn)) spos.line X.env=pure false:=by rfl)(hg:Gl X x:=by rfl) (hdb:(x==("__debug__" : Str))=false:=by decide) :
  PSsd X E (.Assign [.Name vn pn] (.Call (.Name x p) [] [] pos) spos::rest) (sDesk j F g):=by
 obtain⟨t,pt,q⟩:=h
 refine⟨_,pss_cons (ps_set hN hi hx (pe_make0 (dvs:=[]) (E:=E0) M G hr hg hm hb .nil pass0 hdb) hs hf) pt,fun H0 B Hf sd σ H D' sr h=>?_⟩
 unfold sDesk at h
 split at h
 case isFalse=>exact h.elim
 rename_i hown
 rw[Bool.and_eq_true] at hown
 obtain⟨hown,hjl⟩:=hown
 have hjl:=of_decide_eq_true hjl
 split at h
 case h_2=>exact h.elim
 rename_i d eF
 intro a dx ha hdx hne
 have haA:(upd (upd H dx (.own a)) a (.ins C dx [])) a=some (.ins C dx []):=Zn
 have HA:∀b u,H b=some u->(upd (upd H dx (.own a)) a (.ins C dx [])) b=some u:=fun b u z=>by
  rw[Zj (Zk z ha),Zj (Zk z hdx)];exact z
 have hfa:Hf a=none:=by
  cases z:Hf a with
  |none=>rfl
  |some u=>rw[sr.sub _ _ z] at ha;cases ha
 have h0a:H0 a=none:=by
  cases z:H0 a with
  |none=>rfl
  |some u=>rw[sr.all _ _ z] at ha;cases ha
 refine⟨a,dx,Hf,d,rfl,haA,fun b u z=>HA b u (sr.sub b u z),hfa,eF,fun Hf1 H1 v p g1 rv hpa hp=>⟨rfl,?_⟩⟩
 have hf1a:Hf1 a=none:=g1.ban a (lv_ins haA) hfa
 have hf1p:Hf1 p=none:=by
  cases z:Hf1 p with
  |none=>rfl
  |some u=>rw[g1.sub _ _ z] at hp;cases hp
 have hHp:H p=none:=by
  cases z:H p with
  |none=>rfl
  |some u=>rw[g1.all _ _ (HA _ _ z)] at hp;cases hp
 have g2:Gr Hf H Hf1 (upd (upd (upd H1 a (.ins C dx [("hall", v)])) p (.dK [])) a (.ins C dx [("hall", v),("people", .ref p)])):=by
  refine⟨g1.fz,fun b u z=>?_,fun b u z=>?_,fun b h1 h2=>?_⟩
  ·rw[Zj (Zk z hf1a),Zj (Zk z hf1p),Zj (Zk z hf1a)]
   exact g1.sub b u z
  ·rw[Zj (Zk z ha),Zj (Zk z hHp),Zj (Zk z ha)]
   exact g1.all b u (HA b u z)
  ·obtain⟨o,ho,hn⟩:=h1
   exact g1.ban b ⟨o,HA b o ho,hn⟩ h2
 have sr2:=sr_hole (sr.gr g2) j (.ref a)
 have h0p:H0 p=none:=by
  cases z:H0 p with
  |none=>rfl
  |some u=>rw[sr.all _ _ z] at hHp;cases hHp
 have im:∀(i:Nat) (t:S),(sd.set j none)[i]?=some (some t)->t.own=false:=fun i t e=>by
  have hij:j≠i:=fun z=>by
   subst z
   rw[List.getElem?_set_self hjl] at e
   cases e
  rw[List.getElem?_set_ne hij] at e
  have:=List.all_eq_true.mp hown (some t) (List.mem_of_getElem? e)
  simpa using this
 refine q a H0 B Hf1 (sd.set j none) _ _ ⟨d,[]⟩ D' ⟨sr2,List.getElem?_set_self (by rw[<-sr.len];exact hjl),h0a,hf1a,im,p,h0p,dx,v,[],Zn,rv,(Zj hpa).trans Zn,.nil,hpa,hf1p⟩ ?_
 split at h
 ·rename_i d' r' eg
  rw[eg]
  exact fun v Hf' H' s e rv=>h v Hf' H' (g1.fz.trans s) e.fin rv
 ·exact h.elim
end
end DL
namespace DL
open PySem PySem.Spec PyProof.Rows L2 PySem.W PySem.Builtin PySem.Builtin.Str
section
variable {X:Cx} {E:XK} {pos:Pos}
def rStarts:V->List V->Hp->VK->Prop:=fun x vs H Q=>∃z y:Str,x=.str z/\vs=[.str y]/\Q (.bl (Txt.startswith z y)) H
theorem mt_starts:MtM X "str.startswith" rStarts:=by
 intro pins s σ H x vs v us Q I rx rv h
 obtain⟨z,y,rfl,rfl,q⟩:=h
 rcases rv with _|⟨ru,_|_⟩
 obtain⟨t,rfl⟩:=rx
 obtain⟨u,rfl⟩:=ru
 exact call_gives F.slot_str_startswith (typeIs_str _ _ _) F.entry_str_startswith (F.args_str_startswith_2 _ _) (gives_str_startswith z y t u) ⟨.bl _,H,I.tok _,rfl,q⟩
def eStarts (f g:DSt->M D)(sd:DSt):M D:=(f sd).bind fun x=>match x with
 |.str z=>(g sd).bind fun d=>(match d with
  |.str y=>.ok (.bl (Txt.startswith z y))
  |_=>.bad)
 |_=>.bad
theorem pd_starts {o e:Expr}{f g:DSt->M D}{p2 p3:Pos}(h:PEd X E o f)(h':PEd X E e g)(hse:starEach [e] X.env=(false,eval e X.env)::starEach [] X.env:=by rfl)
  (hbase:attributeBase o "startswith" X.env (eval o X.env)=eval o X.env:=by rfl)
  (hfew:((backTo p3 (starEach [e] X.env)).all (fun x=>!x.1)&&(backToKw p3 (keywordEach [] X.env)).all (fun x=>x.1.isSome)
   && decide ([e].length+([]:List Keyword).length+(if([]:List Keyword).isEmpty then 0 else 1)<30))=true:=by rfl)
  (hline:(p2.endLine==p3.line)=true:=by rfl) (hplain:(backTo p3 (starEach [] X.env)).any (·.1)=false:=by rfl) :
  PEd X E (.Call (.Attribute o "startswith" p2) [e] [] p3) (eStarts f g):=by
 obtain⟨t,pt,q⟩:=h
 obtain⟨t',pt',q'⟩:=h'
 refine⟨_,pe_bm PySem.F.plainAttrs_str PySem.F.slot_str_startswith PySem.F.type_str_startswith mt_starts pt (Qp pt' Y7 hse) hbase hfew hline hse hplain,fun H0 B Hf sd σ H Q sr h=>?_⟩
 unfold eStarts at h
 refine q H0 B Hf sd σ H _ sr (Po.bind h fun dx x Hf1 H1 _ g1 rx h1=>?_)
 have sr1:=sr.gr g1
 cases dx with
 |str z =>
  rw[rep_str.mp rx]
  refine⟨rfl,?_⟩
  refine q' H0 B Hf1 sd σ H1 _ sr1 (Po.bind h1 fun dy y Hf2 H2 _ g2 ry h2=>?_)
  cases dy with
  |str w =>
   rw[rep_str.mp ry]
   exact⟨z,w,rfl,rfl,Po.ret (R:=rV X.K) g2.sub h2 (rep_bl.mpr rfl)⟩
  |_=>exact h2.elim
 |_=>exact h1.elim
def gNinX:D->D->M D
 |.str i,.str j=>.ok (.bl (!(!(Builtin.Str.occurrences j i 0 j.length 1).isEmpty)))
 |_,_=>.bad
theorem od_ninX:OpD X E (compareOp .NotIn) gNinX:=by
 refine⟨_,op_notin_str,fun Hf H x y dx dy Q e rx ry q=>?_⟩
 cases dx with
 |str i =>
  cases dy with
  |str j=>exact⟨i,j,rep_str.mp rx,rep_str.mp ry,Po.ret (R:=rV X.K) e q (rep_bl.mpr rfl)⟩
  |_=>exact q.elim
 |_=>cases dy<;>exact q.elim
theorem pd_joined1 {v1:Expr}{f:DSt->M D}(h:PEd X E v1 f):PEd X E (.JoinedStr [v1] pos) f:=by
 obtain⟨t,p,q⟩:=h
 exact⟨t,fun pins s σ H Q I h=>PyProof.Rows.JoinedStr_one (p pins s σ H Q I h),q⟩
end
end DL
namespace DL
open PySem PySem.Spec PyProof.Rows L2 PySem.W
section
variable {X:Cx} {E:XK} {pos:Pos}
def fSplit (f g:DSt->M D)(sd:DSt):M (List D):=(f sd).bind fun x=>match x with
 |.str z=>(g sd).bind fun d=>(match d with
  |.str y=>if(y.length==0)=false/\z.length<=sizeLine/\(Txt.split z y).length<=sizeLine then .ok ((Txt.split z y).map D.str) else .bad
  |_=>.bad)
 |_=>.bad
theorem pfd_split {o e:Expr}{f g:DSt->M D}{p2 p3:Pos}(h:PEd X E o f)(h':PEd X E e g)(hse:starEach [e] X.env=(false,eval e X.env)::starEach [] X.env:=by rfl)
  (hbase:attributeBase o "split" X.env (eval o X.env)=eval o X.env:=by rfl)
  (hfew:((backTo p3 (starEach [e] X.env)).all (fun x=>!x.1)&&(backToKw p3 (keywordEach [] X.env)).all (fun x=>x.1.isSome)
   && decide ([e].length+([]:List Keyword).length+(if([]:List Keyword).isEmpty then 0 else 1)<30))=true:=by rfl)
  (hline:(p2.endLine==p3.line)=true:=by rfl) (hplain:(backTo p3 (starEach [] X.env)).any (·.1)=false:=by rfl) :
  PFd X E (.Call (.Attribute o "split" p2) [e] [] p3) (fSplit f g):=by
 obtain⟨t,pt,q⟩:=h
 obtain⟨t',pt',q'⟩:=h'
 refine⟨_,pe_bm PySem.F.plainAttrs_str PySem.F.slot_str_split PySem.F.type_str_split mt_split pt (Qp pt' Y7 hse) hbase hfew hline hse hplain,fun H0 B Hf sd σ H Q sr h=>?_⟩
 unfold fSplit at h
 refine q H0 B Hf sd σ H _ sr (PoF.bind h fun dx x Hf1 H1 _ g1 rx h1=>?_)
 have sr1:=sr.gr g1
 cases dx with
 |str z =>
  rw[rep_str.mp rx]
  refine⟨rfl,?_⟩
  refine q' H0 B Hf1 sd σ H1 _ sr1 (PoF.bind h1 fun dy y Hf2 H2 _ g2 ry h2=>?_)
  cases dy with
  |str w =>
   dsimp only at h2
   split at h2
   ·rename_i c
    rw[rep_str.mp ry]
    exact⟨z,w,rfl,rfl,c.1,c.2.1,c.2.2,fun l hl=>h2 l _ Hf2 _ ⟨Same.refl _,g2.sub.trans (Z1 hl _),Z1 hl _,fun _ _ e=>e⟩ hl (g2.sub.free hl) Zn (reps_strs _)⟩
   ·exact h2.elim
  |_=>exact h2.elim
 |_=>exact h1.elim
end
theorem pass10 {X:Cx}:Xl (CX1 X.prog X.w) X E0:=fun pins σ H s e s' I h=>by
 obtain⟨_,_,_,_,_,_,_,_,_,_,_,_,_,_,_,q⟩:=h
 exact q.elim
def eBad (_:DSt):M D:=.bad
theorem pd_never {X:Cx}{E:XK}{e:Expr}:PEd X E e eBad:=⟨fun _ _ _=>False,fun _ _ _ _ _ _ h=>h.elim,fun _ _ _ _ _ _ _ _ h=>h.elim⟩
structure Dn (K:Frag) (mg:Str->Option Value) (x:Str) (st:Stmt):Prop where
 ex:∃f fd,Fun K x x st f fd/\mg x=some (.ref f)/\nsIn K mainGlobals x=some (some (.ref f))
structure ClN (P:Program) (w:World) (K:Frag) (mg:Str->Option Value) (base:Heap) (n:Nat) (x:Str) (ps:List Str) (F:List D->M S):Prop where
 ex:∃f fd,FnOk P w K mg base CX0 n f fd ps (spN K F)/\Binds K fd ps []/\keepIn K (.ref f)=true/\mg x=some (.ref f)/\nsIn K mainGlobals x=some (some (.ref f))
structure Dsk (K:Frag) (mg:Str->Option Value) (C:Addr):Prop where
 cl:Cls K C
 hall:NoAttr K C "hall"
 people:NoAttr K C "people"
 mgC:mg "Desk" = some (.ref C)
 makes:makesIn K C=true
 kp:keepIn K (.ref C)=true
section
variable {P:Program} {w:World} {K:Frag} {mg:Str->Option Value} {base:Heap} {C:Addr}
theorem dn_mk {h:Heap}{x:Str}{st:Stmt}{f:Addr}{oc:Value}{od an:Option Addr}{sl:Array (Option Value)}{kV dc pm cd ct:Value}(X:K.In h)(G:h.Ns mainGlobals mg)(a:nsIn K mainGlobals x=some (some (.ref f)))(l:K.lookup f=some ⟨oc,od,.func (fnOf x x (Q8 st) (Z7 st) (Zg st) .none kV dc pm an cd ct),sl⟩)(c:codeIn K cd x=true)(k:keepIn K (.ref f)=true):Dn K mg x st:=⟨_,_,fun_mk l c k,mg_of X G a,a⟩
theorem dsk_mk {h:Heap}(X:K.In h)(G:h.Ns mainGlobals mg) (a:nsIn K mainGlobals "Desk" = some (some (.ref C))) (c1:plainGet K C Str.empty=true) (c2:hasDictIn K C=true) (c3:plainOver K C=true) (c4:findIn K (.ref C) "__setattr__" = some (some (.builtin "object.__setattr__")))
  (n1:findIn K (.ref C) "hall" = some none) (n2:findIn K (.ref C) "people" = some none) (m:makesIn K C=true) (k:keepIn K (.ref C)=true):Dsk K mg C:=⟨⟨c1,c2,c3,c4⟩,n1,n2,mg_of X G a,m,k⟩
theorem Dn.dm {x:Str}{st:Stmt}(d:Dn K mg x st):Dm K mg x st:=let ⟨f,fd,F,m,_⟩:=d.ex;⟨f,fd,F,m⟩
theorem Dn.clY {x:Str}{st:Stmt}{n:Nat}{ps:List Str}{F:Dk->List D->KE D}(d:Dn K mg x st)(hb:∀(kV doc pm:Value) (an:Option Addr) (cdv ct:Value) (us:List Value),us.length=ps.length->bindArgs (fnOf x x (Q8 st) (Z7 st) (Zg st) .none kV doc pm an cdv ct) ⟨us,[]⟩=pure (ps.zip us))(h:∀f fd,Fun K x x st f fd->FnOk P w K mg base (CX1 P w) n f fd ps (spY K C F)):ClY P w K mg base C n x ps F :=
 let ⟨f,fd,F,m,a⟩:=d.ex
 ⟨f,fd,h f fd F,F.binds hb,F.kp,m,a⟩
theorem Dm.clT {x:Str}{st:Stmt}{n:Nat}{ps:List Str}{F:List D->M (List Str)}(d:Dm K mg x st)(hb:∀(kV doc pm:Value) (an:Option Addr) (cdv ct:Value) (us:List Value),us.length=ps.length->bindArgs (fnOf x x (Q8 st) (Z7 st) (Zg st) .none kV doc pm an cdv ct) ⟨us,[]⟩=pure (ps.zip us))(h:∀f fd,Fun K x x st f fd->FnOk P w K mg base (CX1 P w) n f fd ps (spT K F)):ClT P w K mg base n x ps F :=
 let ⟨f,fd,F,m⟩:=d.ex
 ⟨f,fd,h f fd F,F.binds hb,F.kp,m⟩
theorem Dn.own {x:Str}{st:Stmt}{n:Nat}{ps:List Str}{F:List D->M S}(d:Dn K mg x st)(c:Cl P w K mg base n x ps F):ClN P w K mg base n x ps F:=by
 obtain⟨f,fd,G,b,k,m⟩:=c.ex
 obtain⟨f',_,_,m',a⟩:=d.ex
 rw[m] at m'
 cases m'
 exact⟨f,fd,G,b,k,m,a⟩
end
section
variable {X:Cx} {E:XK} {pos:Pos} {a:Expr}
theorem pd_callLC (i:Nat){k:Nat}{ps:List Str}{F:List D->M S}{x nm:Str}{es:List Expr}{fs:DSt->M (List D)}{p:Pos}(c:ClN X.prog X.w X.K X.mg X.base k nm ps F)(hr:Room k X.A)(ha:PAd X E (a::es) fs)(hN:X.N[i]?=some x:=by rfl)(hv:Vis X.env.scope x:=by first|exact Or.inl rfl|exact Or.inr (Or.inl rfl)|exact Or.inr (Or.inr rfl)) (hdb:(x==("__debug__" : Str))=false:=by decide) (hcd:(x==("__classdict__" : Str))=false:=by decide) (he:starEach (a::es) X.env=(false,eval a X.env)::starEach es X.env:=by rfl) (hpl:(backTo pos (starEach es X.env)).any (·.1)=false:=by rfl) :
  PEd X E (.Call (.Name x p) (a::es) [] pos) (Y9 i nm F fs) :=
 let ⟨_,_,G,b,kp,_,hn⟩:=c.ex
 pd_callLN G hr hn kp b ha hN hv hdb hcd he hpl
end
structure ClM (P:Program) (w:World) (K:Frag) (mg:Str->Option Value) (base:Heap) (C:Addr) (n:Nat) (m:Str) (ps:List Str) (F:Dk->List D->KE D):Prop where
 ex:∃f fd,Meth K C m f/\FnOk P w K mg base (CX1 P w) n f fd ps (spY K C F)/\Binds K fd ps []
structure ClD (P:Program) (w:World) (K:Frag) (mg:Str->Option Value) (base:Heap) (C:Addr) (n:Nat) (ps:List Str) (F:List D->M S):Prop where
 ex:∃f fd,Mk K C f/\FnOk P w K mg base CX0 n f fd ps (spDk K C F)/\Binds K fd ps []
section
variable {P:Program} {w:World} {K:Frag} {mg:Str->Option Value} {base:Heap} {C:Addr}
theorem Mm.clM {m q:Str}{st:Stmt}{n:Nat}{ps:List Str}{F:Dk->List D->KE D}(d:Mm K C m q st)(hb:∀(kV doc pm:Value) (an:Option Addr) (cdv ct:Value) (us:List Value),us.length=ps.length->bindArgs (fnOf m q (Q8 st) (Z7 st) (Zg st) .none kV doc pm an cdv ct) ⟨us,[]⟩=pure (ps.zip us))(h:∀f fd,Fun K m q st f fd->FnOk P w K mg base (CX1 P w) n f fd ps (spY K C F)):ClM P w K mg base C n m ps F :=
 let ⟨f,fd,M,F⟩:=d.ex
 ⟨f,fd,M,h f fd F,F.binds hb⟩
theorem Mm.clD {q:Str}{st:Stmt}{n:Nat}{ps:List Str}{F:List D->M S} (d:Mm K C "__init__" q st) (k:Dsk K mg C) (hb:∀(kV doc pm:Value) (an:Option Addr) (cdv ct:Value) (us:List Value),us.length=ps.length->bindArgs (fnOf "__init__" q (Q8 st) (Z7 st) (Zg st) .none kV doc pm an cdv ct) ⟨us,[]⟩=pure (ps.zip us))
  (h:∀f fd,Fun K "__init__" q st f fd->FnOk P w K mg base CX0 n f fd ps (spDk K C F)):ClD P w K mg base C n ps F :=
 let ⟨f,fd,M,F⟩:=d.ex
 ⟨f,fd,⟨k.makes,M.at_,M.fn,k.kp⟩,h f fd F,F.binds hb⟩
end
section
variable {X:Cx} {E:XK} {C:Addr} {j:Nat}
theorem pey_methC {pl:Sem Bool}{k:Nat}{ps:List Str}{F:Dk->List D->KE D}{m vn:Str}{e₁:Expr}{es:List Expr}{fs:DSt->M (List D)}{p apos pos:Pos}(dk:Dsk X.K X.mg C)(c:ClM X.prog X.w X.K X.mg X.base C k m ps F)(hr:Room k X.A)(ho:Xl (CX1 X.prog X.w) X E)(ha:PAd X E (e₁::es) fs)
  (hm1:m ≠ "hall" := by decide) (hm2:m ≠ "people" := by decide)
  (hN:X.N[j]?=some vn:=by rfl) (hv:Vis X.env.scope vn:=by first|exact Or.inl rfl|exact Or.inr (Or.inl rfl)|exact Or.inr (Or.inr rfl)) (hd:(vn==("__debug__" : Str))=false:=by decide) (hcd:(vn==("__classdict__" : Str))=false:=by decide)
  (hst:starEach (e₁::es) X.env=(false,eval e₁ X.env)::starEach es X.env:=by rfl) (hpl:(backTo pos (starEach es X.env)).any (·.1)=false:=by rfl)
  (ht:eval (.Call (.Attribute (.Name vn p) m apos) (e₁::es) [] pos) X.env=(do
   let ov <-eval (.Name vn p) X.env
   standAt apos.atName
   let (f,first) <-holding [ov] (getMethod ov m pl)
   callWith pos f first (backTo pos (starEach (e₁::es) X.env)) (backToKw pos (keywordEach [] X.env))):=by rfl) :
  PEy X E C j (.Call (.Attribute (.Name vn p) m apos) (e₁::es) [] pos) (Xb F fs) :=
 let ⟨_,_,M,G,b⟩:=c.ex
 pey_meth dk.cl M G b hr ho ha hm1 hm2 hN hv hd hcd hst hpl ht
theorem psy_try2C (i:Nat){pl:Sem Bool}{k:Nat}{ps:List Str}{F:Dk->List D->KE D}{m vn y c1 c2 w1 w2:Str}{e₁:Expr}{es:List Expr}{fs:DSt->M (List D)}{p py apos cpos spos pos q1 q2 q3 q4 q5 q6 q7 q8:Pos}{k1 k2:Nat}(dk:Dsk X.K X.mg C)(c:ClM X.prog X.w X.K X.mg X.base C k m ps F)(hr:Room k X.A)(x2:X2 X.K X.mg c1 c2)(hN:X.N.Nodup)(ha:PAd X.nox E0 (e₁::es) fs)(hij:i≠j:=by decide)
  (hm1:m ≠ "hall" := by decide) (hm2:m ≠ "people" := by decide)
  (hNj:X.N[j]?=some vn:=by rfl) (hv:Vis X.env.scope vn:=by first|exact Or.inl rfl|exact Or.inr (Or.inl rfl)|exact Or.inr (Or.inr rfl)) (hd:(vn==("__debug__" : Str))=false:=by decide) (hcd:(vn==("__classdict__" : Str))=false:=by decide)
  (hi:X.N[i]?=some y:=by rfl) (hx:Loc X.env.scope y:=by first|exact Or.inl rfl|exact Or.inr rfl) (hf:X.fn y=true\/X.env.scope.names.lookup y=some .local:=by first|exact .inl rfl|exact .inr rfl)
  (hg1:Gl X c1:=by rfl) (hg2:Gl X c2:=by rfl) (hd1:(c1==("__debug__" : Str))=false:=by decide) (hd2:(c2==("__debug__" : Str))=false:=by decide) (hst:X.stack=X.env::X.outer:=by rfl) (hfr:X.env.frame=some X.env.locals:=by rfl)
  (hsw:swapsWithSole [.Name y py] (.Call (.Attribute (.Name vn p) m apos) (e₁::es) [] cpos) spos.line X.env=pure false:=by rfl) (hsx:swappedStores [.Name y py] (.Call (.Attribute (.Name vn p) m apos) (e₁::es) [] cpos) X.env=pure none:=by rfl)
  (h1t:(assignEach [.Name y py] X.env).map (·.2)=[assign (.Name y py) X.env]:=by rfl)
  (hst2:starEach (e₁::es) X.env=(false,eval e₁ X.env)::starEach es X.env:=by rfl) (hpl:(backTo cpos (starEach es X.env)).any (·.1)=false:=by rfl)
  (ht:eval (.Call (.Attribute (.Name vn p) m apos) (e₁::es) [] cpos) X.env=(do
   let ov <-eval (.Name vn p) X.env
   standAt apos.atName
   let (f,first) <-holding [ov] (getMethod ov m pl)
   callWith cpos f first (backTo cpos (starEach (e₁::es) X.env)) (backToKw cpos (keywordEach [] X.env))):=by rfl) :
  PSy X E C j (.Try [.Assign [.Name y py] (.Call (.Attribute (.Name vn p) m apos) (e₁::es) [] cpos) spos] [.ExceptHandler (some (.Name c1 q1)) none [.Return (some (.Constant (.str w1) k1 q2)) q3] q4,.ExceptHandler (some (.Name c2 q5)) none [.Return (some (.Constant (.str w2) k2 q6)) q7] q8] [] [] pos) (kTry2 i F fs c1 w1 c2 w2) :=
 let ⟨_,_,M,G,b⟩:=c.ex
 psy_try2 i dk.cl M G b hr x2 hN ha hij hm1 hm2 hNj hv hd hcd hi hx hf hg1 hg2 hd1 hd2 hst hfr hsw hsx h1t hst2 hpl ht
theorem psd_deskC (j:Nat){k:Nat}{ps:List Str}{F:List D->M S}{vn:Str}{rest:List Stmt}{g:DSt->Dk->KE KO}{p pn pos spos:Pos}(dk:Dsk X.K X.mg C)(c:ClD X.prog X.w X.K X.mg X.base C k ps F)(hr:Room (k+1) X.A)(hN:X.N.Nodup)(h:PSsy X E C j rest g)(hi:X.N[j]?=some vn:=by rfl)(hx:Loc X.env.scope vn:=by first|exact Or.inl rfl|exact Or.inr rfl)(hf:X.fn vn=true\/X.env.scope.names.lookup vn=some .local:=by first|exact .inl rfl|exact .inr rfl|assumption)
  (hs:swapsWith (.Call (.Name "Desk" p) [] [] pos) (some (.Name vn pn)) spos.line X.env=pure false:=by rfl) (hg:Gl X "Desk" := by rfl) :
  PSsd X E (.Assign [.Name vn pn] (.Call (.Name "Desk" p) [] [] pos) spos::rest) (sDesk j F g) :=
 let ⟨_,_,M,G,b⟩:=c.ex
 psd_desk j M G hr dk.mgC b hN h hi hx hf hs hg (by decide)
end
end DL
namespace Law
open PySem L2 DL
def top (i:Nat):Stmt:=PySem.Challenge.pw_selfsight_k53_whole_numbers_by_texts.main.body.getD i (.Pass ⟨0,0,0,0⟩)
abbrev Xo:Stmt:=top 1
abbrev s_amount:Stmt:=top 2
abbrev s_below:Stmt:=top 4
abbrev s_is_whole:Stmt:=top 17
abbrev s_is_from_to:Stmt:=top 18
abbrev s_is_edge:Stmt:=top 19
abbrev s_outward_face:Stmt:=top 20
abbrev s_is_side:Stmt:=top 22
abbrev s_checked:Stmt:=top 23
abbrev Y1:Stmt:=top 26
abbrev s_may_stand:Stmt:=top 27
abbrev s_box:Stmt:=top 29
abbrev s_whole_in:Stmt:=top 34
abbrev s_is_name:Stmt:=top 82
abbrev s_show_number:Stmt:=top 83
abbrev s_any_word:Stmt:=top 85
abbrev s_whole_word:Stmt:=top 86
abbrev s_number_word:Stmt:=top 88
abbrev s_l_numbers:Stmt:=top 120
abbrev s_l_common:Stmt:=top 121
abbrev s_l_lowest:Stmt:=top 122
abbrev s_l_number:Stmt:=top 123
abbrev s_l_is_number:Stmt:=top 125
abbrev s_l_bent:Stmt:=top 126
abbrev s_l_drawn:Stmt:=top 127
abbrev s_l_stands:Stmt:=top 128
abbrev s_l_small:Stmt:=top 129
abbrev s_form_of:Stmt:=top 94
abbrev s_parts_of:Stmt:=top 95
abbrev s_Desk_init:Stmt:=inCls (top 117) 0
abbrev s_number_of:Stmt:=top 97
abbrev s_keep_hall:Stmt:=top 99
abbrev s_on_box:Stmt:=top 101
abbrev Y4:Stmt:=top 103
abbrev s_Desk_say:Stmt:=inCls (top 117) 1
abbrev s_l_asked:Stmt:=top 124
abbrev s_law:Stmt:=top 130
abbrev sI_NoPerson:Stmt:=inCls (top 10) 0
theorem scI_NoPerson:FnScope ["self", "number"] ["self", "number"] (Zg sI_NoPerson):=⟨rfl,rfl,rfl,by decide +kernel,rfl,by decide +kernel,by decide +kernel⟩
def kREADERS:List (Str×Option Str):=[(Str.ofString "name", some (Str.ofString "any_word")),(Str.ofString "whole", some (Str.ofString "whole_word")),(Str.ofString "reach", none),(Str.ofString "number", some (Str.ofString "number_word")),(Str.ofString "side", none),(Str.ofString "edge", none),(Str.ofString "place", none)]
def kANSWERS:List (Str×Option Str):=[(Str.ofString "hall", none),(Str.ofString "show", none),(Str.ofString "box", some (Str.ofString "on_box")),(Str.ofString "person", some (Str.ofString "on_person")),(Str.ofString "gone", none),(Str.ofString "walk", none),(Str.ofString "ways", none),(Str.ofString "images", none),(Str.ofString "hide", none),(Str.ofString "turn", none),(Str.ofString "mirror", none),(Str.ofString "put", none),(Str.ofString "open", none)]
def kFORMS:List (Str×Option (List Str)):=[(Str.ofString "show", none),(Str.ofString "box", some [Str.ofString "whole", Str.ofString "whole"]),(Str.ofString "person", some [Str.ofString "name", Str.ofString "number", Str.ofString "number"]),(Str.ofString "gone", none),(Str.ofString "walk", none),(Str.ofString "ways", none),(Str.ofString "images", none),(Str.ofString "hide", none),(Str.ofString "turn", none),(Str.ofString "mirror", none),(Str.ofString "put", none),(Str.ofString "open", none)]
section
variable {P:Program} {w:World} {K:PySem.W.Frag} {mg:Str->Option Value} {base:Heap} {C:Addr}
noncomputable def Yr:List D->M S:=fnD 2 3
  (Zw (Z9 2 (eCB bAbs (Zd (Zc 0) Zh)))
   (Zw (Z9 3 (eCB bAbs (Zd (Zc 1) Zh)))
   (Zw (sWhile (tB (eOp gNe (Zc 3) (eC (.int 0)))) (Zw (Z9 4 (eOp Yd (Zc 2) (Zc 3)))
   (Zw (Z9 2 (Zc 3))
   (Z9 3 (Zc 4)))))
   (Qq (Zc 2)))))
theorem sc_common_divisor:FnScope ["one", "other", "greater", "lesser", "rest"] ["one", "other"] (Zg Xo):=⟨rfl,rfl,rfl,by decide +kernel,rfl,by decide +kernel,by decide +kernel⟩
theorem ok_common_divisor (d:Dm K mg "common_divisor" Xo) (z_abs:mg "abs" = none):Cl P w K mg base 1 "common_divisor" ["one", "other"] Yr :=
 d.cl (fun _ _ _ _ _ _ us hl=>match us,hl with | [_,_],_=>rfl) fun _ _ F=>Xd F sc_common_divisor rfl rfl fun cdv A outer s H E hr =>
  (Zi (Zy 2 sc_common_divisor.nd (Z5 cd_abs (by rfl) z_abs (by rfl) (Zb (Za 0) Zf)))
   (Zi (Zy 3 sc_common_divisor.nd (Z5 cd_abs (by rfl) z_abs (by rfl) (Zb (Za 1) Zf)))
   (Zi (psd_while PassesOwn.never (Zu (od_ne hr.units) (Za 3) Ze (Zq _)) (Zi (Zy 4 sc_common_divisor.nd (Zx Yx (Za 2) (Za 3)))
   (Zi (Zy 2 sc_common_divisor.nd (Za 3))
   (Zo (Zy 3 sc_common_divisor.nd (Za 4))))))
   (Zo (Zs (Za 2))))))
noncomputable def F_amount:List D->M S:=fnD 2 1
  (Zw (Z9 2 (Zt Yr (Zd (Zc 0) (Zd (Zc 1) Zh))))
   (Qq (eTup (Zd (eOp gFdiv (Zc 0) (Zc 2)) (Zd (eOp gFdiv (Zc 1) (Zc 2)) Zh)))))
theorem sc_amount:FnScope ["top", "bottom", "divisor"] ["top", "bottom"] (Zg s_amount):=⟨rfl,rfl,rfl,by decide +kernel,rfl,by decide +kernel,by decide +kernel⟩
theorem ok_amount (d:Dm K mg "amount" s_amount) (c_common_divisor:Cl P w K mg base 1 "common_divisor" ["one", "other"] Yr):Cl P w K mg base 2 "amount" ["top", "bottom"] F_amount :=
 d.cl (fun _ _ _ _ _ _ us hl=>match us,hl with | [_,_],_=>rfl) fun _ _ F=>Xd F sc_amount rfl rfl fun cdv A outer s H E hr =>
  (Zi (Zy 2 sc_amount.nd (Zp c_common_divisor (hr.mono (by decide)) (Zb (Za 0) (Zb (Za 1) Zf))))
   (Zo (Zs (Xn (Zb (Zx od_fdiv (Za 0) (Za 2)) (Zb (Zx od_fdiv (Za 1) (Za 2)) Zf))))))
noncomputable def F_below:List D->M S:=fnD 2 0
  (Qq (eOp gLt (eOp Yt (eOp gIx (Zc 0) (eC (.int 0))) (eOp gIx (Zc 1) (eC (.int 1)))) (eOp Yt (eOp gIx (Zc 1) (eC (.int 0))) (eOp gIx (Zc 0) (eC (.int 1))))))
theorem sc_below:FnScope ["one", "other"] ["one", "other"] (Zg s_below):=⟨rfl,rfl,rfl,by decide +kernel,rfl,by decide +kernel,by decide +kernel⟩
theorem ok_below (d:Dm K mg "below" s_below)  : Cl P w K mg base 1 "below" ["one", "other"] F_below :=
 d.cl (fun _ _ _ _ _ _ us hl=>match us,hl with | [_,_],_=>rfl) fun _ _ F=>Xd F sc_below rfl rfl fun cdv A outer s H E hr =>
  (Zo (Zs (Yl od_lt (Zx od_times (Zv (Za 0) Ze (fun _ _=>rfl)) (Zv (Za 1) Ze (fun _ _=>rfl))) (Zx od_times (Zv (Za 1) Ze (fun _ _=>rfl)) (Zv (Za 0) Ze (fun _ _=>rfl))) (Zq _))))
noncomputable def F_is_whole:List D->M S:=fnD 1 0
  (Qq (eAnd (eIs "int" (Zc 0)) (eNot (eIs "bool" (Zc 0)))))
theorem sc_is_whole:FnScope ["value"] ["value"] (Zg s_is_whole):=⟨rfl,rfl,rfl,by decide +kernel,rfl,by decide +kernel,by decide +kernel⟩
theorem ok_is_whole (d:Dm K mg "is_whole" s_is_whole) (z_isinstance:mg "isinstance" = none) (z_int:mg "int" = none) (z_bool:mg "bool" = none):Cl P w K mg base 1 "is_whole" ["value"] F_is_whole :=
 d.cl (fun _ _ _ _ _ _ us hl=>match us,hl with | [_],_=>rfl) fun _ _ F=>Xd F sc_is_whole rfl rfl fun cdv A outer s H E hr =>
  (Zo (Zs (pd_and (pd_isinst "int" (by rfl) z_isinstance z_int (by rfl) (by rfl) (Za 0)) (pd_one (pd_not (pd_isinst "bool" (by rfl) z_isinstance z_bool (by rfl) (by rfl) (Za 0)))))))
noncomputable def Qr:List D->M S:=fnD 3 0
  (Qq (eAnd (Zt F_is_whole (Zd (Zc 0) Zh)) (eAnd (eOp gLe (Zc 1) (Zc 0)) (eOp gLe (Zc 0) (Zc 2)))))
theorem sc_is_from_to:FnScope ["value", "least", "greatest"] ["value", "least", "greatest"] (Zg s_is_from_to):=⟨rfl,rfl,rfl,by decide +kernel,rfl,by decide +kernel,by decide +kernel⟩
theorem ok_is_from_to (d:Dm K mg "is_from_to" s_is_from_to) (c_is_whole:Cl P w K mg base 1 "is_whole" ["value"] F_is_whole):Cl P w K mg base 2 "is_from_to" ["value", "least", "greatest"] Qr :=
 d.cl (fun _ _ _ _ _ _ us hl=>match us,hl with | [_,_,_],_=>rfl) fun _ _ F=>Xd F sc_is_from_to rfl rfl fun cdv A outer s H E hr =>
  (Zo (Zs (pd_and (Zp c_is_whole (hr.mono (by decide)) (Zb (Za 0) Zf)) (pd_and (Yl od_le (Za 1) (Za 0) (Zq _)) (pd_one (Yl od_le (Za 0) (Za 2) (Zq _)))))))
noncomputable def F_is_edge:List D->M S:=fnD 5 0
  (Zw (sIf (tB (eOp gEq (Zc 2) (eC (.str (Str.ofString "up"))))) (Qq (eAnd (Zt Qr (Zd (Zc 3) (Zd (eC (.int 0)) (Zd (Zc 0) Zh)))) (Zt Qr (Zd (Zc 4) (Zd (eC (.int 0)) (Zd (eOp gSub (Zc 1) (eC (.int 1))) Zh)))))) Yz)
   (Zw (sIf (tB (eOp gEq (Zc 2) (eC (.str (Str.ofString "flat"))))) (Qq (eAnd (Zt Qr (Zd (Zc 3) (Zd (eC (.int 0)) (Zd (eOp gSub (Zc 0) (eC (.int 1))) Zh)))) (Zt Qr (Zd (Zc 4) (Zd (eC (.int 0)) (Zd (Zc 1) Zh)))))) Yz)
   (Qq (eC (.bl false)))))
theorem sc_is_edge:FnScope ["width", "height", "kind", "x", "y"] ["width", "height", "kind", "x", "y"] (Zg s_is_edge):=⟨rfl,rfl,rfl,by decide +kernel,rfl,by decide +kernel,by decide +kernel⟩
theorem ok_is_edge (d:Dm K mg "is_edge" s_is_edge) (c_is_from_to:Cl P w K mg base 2 "is_from_to" ["value", "least", "greatest"] Qr):Cl P w K mg base 3 "is_edge" ["width", "height", "kind", "x", "y"] F_is_edge :=
 d.cl (fun _ _ _ _ _ _ us hl=>match us,hl with | [_,_,_,_,_],_=>rfl) fun _ _ F=>Xd F sc_is_edge rfl rfl fun cdv A outer s H E hr =>
  (Zi (Q3 (Zu (Yi hr.units) (Za 2) Zr (Zq _)) (Zo (Zs (pd_and (Zp c_is_from_to (hr.mono (by decide)) (Zb (Za 3) (Zb Ze (Zb (Za 0) Zf)))) (pd_one (Zp c_is_from_to (hr.mono (by decide)) (Zb (Za 4) (Zb Ze (Zb (Zx od_sub (Za 1) Ze) Zf)))))))) Qk)
   (Zi (Q3 (Zu (Yi hr.units) (Za 2) Zr (Zq _)) (Zo (Zs (pd_and (Zp c_is_from_to (hr.mono (by decide)) (Zb (Za 3) (Zb Ze (Zb (Zx od_sub (Za 0) Ze) Zf)))) (pd_one (Zp c_is_from_to (hr.mono (by decide)) (Zb (Za 4) (Zb Ze (Zb (Za 1) Zf)))))))) Qk)
   (Zo (Zs pd_bl))))
noncomputable def F_outward_face:List D->M S:=fnD 5 2
  (Zw (Z9 5 (eIf (tB (eOp gEq (Zc 2) (eC (.str (Str.ofString "up"))))) (Zc 3) (Zc 4)))
   (Zw (Z9 6 (eIf (tB (eOp gEq (Zc 2) (eC (.str (Str.ofString "up"))))) (Zc 0) (Zc 1)))
   (Zw (sIf (tB (eOp gEq (Zc 5) (eC (.int 0)))) (Qq (eC (.int 3))) Yz)
   (Zw (sIf (tB (eOp gEq (Zc 5) (Zc 6))) (Qq (eC (.int 4))) Yz)
   (Qq (eC .non))))))
theorem sc_outward_face:FnScope ["width", "height", "kind", "x", "y", "line", "last"] ["width", "height", "kind", "x", "y"] (Zg s_outward_face):=⟨rfl,rfl,rfl,by decide +kernel,rfl,by decide +kernel,by decide +kernel⟩
theorem ok_outward_face (d:Dm K mg "outward_face" s_outward_face)  : Cl P w K mg base 1 "outward_face" ["width", "height", "kind", "x", "y"] F_outward_face :=
 d.cl (fun _ _ _ _ _ _ us hl=>match us,hl with | [_,_,_,_,_],_=>rfl) fun _ _ F=>Xd F sc_outward_face rfl rfl fun cdv A outer s H E hr =>
  (Zi (Zy 5 sc_outward_face.nd (pd_ifexp (Zu (Yi hr.units) (Za 2) Zr (Zq _)) (Za 3) (Za 4)))
   (Zi (Zy 6 sc_outward_face.nd (pd_ifexp (Zu (Yi hr.units) (Za 2) Zr (Zq _)) (Za 0) (Za 1)))
   (Zi (Q3 (Zu (Yi hr.units) (Za 5) Ze (Zq _)) (Zo (Zs Ze)) Qk)
   (Zi (Q3 (Zu (Yi hr.units) (Za 5) (Za 6) (Zq _)) (Zo (Zs Ze)) Qk)
   (Zo (Zs pd_non))))))
noncomputable def F_is_side:List D->M S:=fnD 3 1
  (Zw (sIf (tN (tB (Zt F_is_edge (Zd (Zc 0) (Zd (Zc 1) (Zd (eOp gIx (Zc 2) (eC (.int 0))) (Zd (eOp gIx (Zc 2) (eC (.int 1))) (Zd (eOp gIx (Zc 2) (eC (.int 2))) Zh)))))))) (Qq (eC (.bl false))) Yz)
   (Zw (sIf (tO (tB (eUn (gInC [V.str (Str.ofString "m"),V.str (Str.ofString "p")] true) (eOp gIx (Zc 2) (eC (.int 3))))) (tB (eUn (gInC [V.str (Str.ofString "m"),V.str (Str.ofString "p")] true) (eOp gIx (Zc 2) (eC (.int 4)))))) (Qq (eC (.bl false))) Yz)
   (Zw (Z9 3 (Zt F_outward_face (Zd (Zc 0) (Zd (Zc 1) (Zd (eOp gIx (Zc 2) (eC (.int 0))) (Zd (eOp gIx (Zc 2) (eC (.int 1))) (Zd (eOp gIx (Zc 2) (eC (.int 2))) Zh)))))))
   (Qq (eOr (eOp gIsN (Zc 3) (eC .non)) (eOp gEq (eOp gIx (Zc 2) (Zc 3)) (eC (.str (Str.ofString "p")))))))))
theorem sc_is_side:FnScope ["width", "height", "side", "outward"] ["width", "height", "side"] (Zg s_is_side):=⟨rfl,rfl,rfl,by decide +kernel,rfl,by decide +kernel,by decide +kernel⟩
theorem ok_is_side (d:Dm K mg "is_side" s_is_side) (c_is_edge:Cl P w K mg base 3 "is_edge" ["width", "height", "kind", "x", "y"] F_is_edge) (c_outward_face:Cl P w K mg base 1 "outward_face" ["width", "height", "kind", "x", "y"] F_outward_face) {at_FACES:Addr} (mt_FACES:mg "FACES" = some (.ref at_FACES)) (tb_FACES:tupB K at_FACES [V.str (Str.ofString "m"),V.str (Str.ofString "p")]=true):Cl P w K mg base 4 "is_side" ["width", "height", "side"] F_is_side :=
 d.cl (fun _ _ _ _ _ _ us hl=>match us,hl with | [_,_,_],_=>rfl) fun _ _ F=>Xd F sc_is_side rfl rfl fun cdv A outer s H E hr =>
  (Zi (Q3 (Yv (Yf (Zp c_is_edge (hr.mono (by decide)) (Zb (Za 0) (Zb (Za 1) (Zb (Zv (Za 2) Ze (fun _ _=>rfl)) (Zb (Zv (Za 2) Ze (fun _ _=>rfl)) (Zb (Zv (Za 2) Ze (fun _ _=>rfl)) Zf)))))))) (Zo (Zs pd_bl)) Qk)
   (Zi (Q3 ((Yy (ptd_notinC mt_FACES tb_FACES (Zv (Za 2) Ze (fun _ _=>rfl))) (Y8 (ptd_notinC mt_FACES tb_FACES (Zv (Za 2) Ze (fun _ _=>rfl)))))).pt (Zo (Zs pd_bl)) Qk)
   (Zi (Zy 3 sc_is_side.nd (Zp c_outward_face (hr.mono (by decide)) (Zb (Za 0) (Zb (Za 1) (Zb (Zv (Za 2) Ze (fun _ _=>rfl)) (Zb (Zv (Za 2) Ze (fun _ _=>rfl)) (Zb (Zv (Za 2) Ze (fun _ _=>rfl)) Zf)))))))
   (Zo (Zs (pd_or (Yl od_isN (Za 3) pd_non (Zq _)) (pd_one (Yl (Yi hr.units) (Zv (Za 2) (Za 3) (fun _ _=>rfl)) Zr (Zq _)))))))))
noncomputable def F_checked:List D->M S:=fnD 1 5
  (Zw (Z9 1 (eOp gIx (Zc 0) (eC (.int 0))))
   (Zw (Z9 2 (eOp gIx (Zc 0) (eC (.int 1))))
   (Zw (sIf (tO (tN (tB (Zt Qr (Zd (Zc 1) (Zd (eC (.int 1)) (Zd (eC (.int 8)) Zh)))))) (tN (tB (Zt Qr (Zd (Zc 2) (Zd (eC (.int 1)) (Zd (eC (.int 8)) Zh))))))) sBad Yz)
   (Zw (sDNewT 3)
   (Zw (sFor (iEnumT (Zd (eOp gIx (Zc 0) (eC (.int 2))) Zh)) (gTupD 2 (Y0 (gNm 4) (Y0 (gNm 5) gsNil))) (Zw (sIf (tO (tN (tB (Zt F_is_side (Zd (Zc 1) (Zd (Zc 2) (Zd (Zc 5) Zh)))))) (tB (eDIn 3 (eSl (Zc 5) Qh (Qi (eC (.int 3))))))) sBad Yz)
   (sDPut 3 (eSl (Zc 5) Qh (Qi (eC (.int 3)))) (eC (.bl true)))))
   (Qq (eTup (Zd (Zc 1) (Zd (Zc 2) (Zd (eCB bTuple (Zd (eCB bSortR (Zd (eOp gIx (Zc 0) (eC (.int 2))) Zh)) Zh)) Zh))))))))))
theorem sc_checked:FnScope ["hall", "width", "height", "told", "number", "side"] ["hall"] (Zg s_checked):=⟨rfl,rfl,rfl,by decide +kernel,rfl,by decide +kernel,by decide +kernel⟩
theorem ok_checked (d:Dm K mg "checked" s_checked) (c_is_from_to:Cl P w K mg base 2 "is_from_to" ["value", "least", "greatest"] Qr) (c_is_side:Cl P w K mg base 4 "is_side" ["width", "height", "side"] F_is_side) (z_enumerate:mg "enumerate" = none) (z_sorted:mg "sorted" = none) (z_tuple:mg "tuple" = none) {tk_GREATEST_SIZE:Tok} (gi_GREATEST_SIZE:mg "GREATEST_SIZE" = some (.int 8 tk_GREATEST_SIZE)):Cl P w K mg base 5 "checked" ["hall"] F_checked :=
 d.cl (fun _ _ _ _ _ _ us hl=>match us,hl with | [_],_=>rfl) fun _ _ F=>Xd F sc_checked rfl rfl fun cdv A outer s H E hr =>
  (Zi (Zy 1 sc_checked.nd (Zv (Za 0) Ze (fun _ _=>rfl)))
   (Zi (Zy 2 sc_checked.nd (Zv (Za 0) Ze (fun _ _=>rfl)))
   (Zi (Q3 ((Yy (Yv (Yf (Zp c_is_from_to (hr.mono (by decide)) (Zb (Za 1) (Zb Ze (Zb (pd_globI gi_GREATEST_SIZE) Zf)))))) (Y8 (Yv (Yf (Zp c_is_from_to (hr.mono (by decide)) (Zb (Za 2) (Zb Ze (Zb (pd_globI gi_GREATEST_SIZE) Zf))))))))).pt (Zo psd_bad) Qk)
   (Zi (psd_dnewT 3 sc_checked.nd)
   (Zi (psd_for PassesOwn.never rfl (pid_enumT (by rfl) z_enumerate (Zb (Zv (Za 0) Ze (fun _ _=>rfl)) Zf)) (pgd_tup rfl (pgsd_cons (Qx 4 sc_checked.nd) (pgsd_cons (Qx 5 sc_checked.nd) pgsd_nil))) (Zi (Q3 ((Yy (Yv (Yf (Zp c_is_side (hr.mono (by decide)) (Zb (Za 1) (Zb (Za 2) (Zb (Za 5) Zf)))))) (Y8 (ptd_din 3 hr.units (pd_slice (Za 5) Ql (Qm Ze)))))).pt (Zo psd_bad) Qk)
   (Zo (psd_dput 3 hr.units (pd_slice (Za 5) Ql (Qm Ze)) pd_bl))))
   (Zo (Zs (Xn (Zb (Za 1) (Zb (Za 2) (Zb (Yo cd_tuple (by rfl) z_tuple (by rfl) (Zb (Z5 cd_sortR (by rfl) z_sorted (by rfl) (Zb (Zv (Za 0) Ze (fun _ _=>rfl)) Zf)) Zf)) Zf)))))))))))
noncomputable def Qj:List D->M S:=fnD 2 0
  (Qq (eAnd (eOp gNe (eOp gIx (Zc 0) (eC (.int 1))) (eC (.int 1))) (eAnd (Zt F_below (Zd (eTup (Zd (eC (.int 0)) (Zd (eC (.int 1)) Zh))) (Zd (Zc 0) Zh))) (Zt F_below (Zd (Zc 0) (Zd (eTup (Zd (Zc 1) (Zd (eC (.int 1)) Zh))) Zh))))))
theorem sc_is_between_lines:FnScope ["number", "last"] ["number", "last"] (Zg Y1):=⟨rfl,rfl,rfl,by decide +kernel,rfl,by decide +kernel,by decide +kernel⟩
theorem ok_is_between_lines (d:Dm K mg "is_between_lines" Y1) (c_below:Cl P w K mg base 1 "below" ["one", "other"] F_below):Cl P w K mg base 2 "is_between_lines" ["number", "last"] Qj :=
 d.cl (fun _ _ _ _ _ _ us hl=>match us,hl with | [_,_],_=>rfl) fun _ _ F=>Xd F sc_is_between_lines rfl rfl fun cdv A outer s H E hr =>
  (Zo (Zs (pd_and (Yl (od_ne hr.units) (Zv (Za 0) Ze (fun _ _=>rfl)) Ze (Zq _)) (pd_and (Zp c_below (hr.mono (by decide)) (Zb (Xn (Zb Ze (Zb Ze Zf))) (Zb (Za 0) Zf))) (pd_one (Zp c_below (hr.mono (by decide)) (Zb (Za 0) (Zb (Xn (Zb (Za 1) (Zb Ze Zf))) Zf))))))))
noncomputable def Ye:List D->M S:=fnD 2 0
  (Qq (eAnd (Zt Qj (Zd (eOp gIx (Zc 1) (eC (.int 0))) (Zd (eOp gIx (Zc 0) (eC (.int 0))) Zh))) (Zt Qj (Zd (eOp gIx (Zc 1) (eC (.int 1))) (Zd (eOp gIx (Zc 0) (eC (.int 1))) Zh)))))
theorem sc_may_stand:FnScope ["hall", "point"] ["hall", "point"] (Zg s_may_stand):=⟨rfl,rfl,rfl,by decide +kernel,rfl,by decide +kernel,by decide +kernel⟩
theorem ok_may_stand (d:Dm K mg "may_stand" s_may_stand) (c_is_between_lines:Cl P w K mg base 2 "is_between_lines" ["number", "last"] Qj):Cl P w K mg base 3 "may_stand" ["hall", "point"] Ye :=
 d.cl (fun _ _ _ _ _ _ us hl=>match us,hl with | [_,_],_=>rfl) fun _ _ F=>Xd F sc_may_stand rfl rfl fun cdv A outer s H E hr =>
  (Zo (Zs (pd_and (Zp c_is_between_lines (hr.mono (by decide)) (Zb (Zv (Za 1) Ze (fun _ _=>rfl)) (Zb (Zv (Za 0) Ze (fun _ _=>rfl)) Zf))) (pd_one (Zp c_is_between_lines (hr.mono (by decide)) (Zb (Zv (Za 1) Ze (fun _ _=>rfl)) (Zb (Zv (Za 0) Ze (fun _ _=>rfl)) Zf)))))))
noncomputable def F_box:List D->M S:=fnD 2 3
  (Zw (sXp (Zt F_checked (Zd (eTup (Zd (Zc 0) (Zd (Zc 1) (Zd (eTup Zh) Zh)))) Zh)))
   (Zw (sOwn 2 (fLst Zh))
   (Zw (sFor (iRange1 (Zd (Zc 0) Zh)) (gNm 3) (Zw (sApp 2 (eTup (Zd (eC (.str (Str.ofString "flat"))) (Zd (Zc 3) (Zd (eC (.int 0)) (Zd (eC (.str (Str.ofString "p"))) (Zd (eC (.str (Str.ofString "m"))) Zh)))))))
   (sApp 2 (eTup (Zd (eC (.str (Str.ofString "flat"))) (Zd (Zc 3) (Zd (Zc 1) (Zd (eC (.str (Str.ofString "m"))) (Zd (eC (.str (Str.ofString "p"))) Zh)))))))))
   (Zw (sFor (iRange1 (Zd (Zc 1) Zh)) (gNm 4) (Zw (sApp 2 (eTup (Zd (eC (.str (Str.ofString "up"))) (Zd (eC (.int 0)) (Zd (Zc 4) (Zd (eC (.str (Str.ofString "p"))) (Zd (eC (.str (Str.ofString "m"))) Zh)))))))
   (sApp 2 (eTup (Zd (eC (.str (Str.ofString "up"))) (Zd (Zc 0) (Zd (Zc 4) (Zd (eC (.str (Str.ofString "m"))) (Zd (eC (.str (Str.ofString "p"))) Zh)))))))))
   (sFrz 2 (Qq (Zt F_checked (Zd (eTup (Zd (Zc 0) (Zd (Zc 1) (Zd (eCB bTuple (Zd (Zc 2) Zh)) Zh)))) Zh))))))))
theorem sc_box:FnScope ["width", "height", "sides", "x", "y"] ["width", "height"] (Zg s_box):=⟨rfl,rfl,rfl,by decide +kernel,rfl,by decide +kernel,by decide +kernel⟩
theorem ok_box (d:Dm K mg "box" s_box) (c_checked:Cl P w K mg base 5 "checked" ["hall"] F_checked) (z_range:mg "range" = none) (z_tuple:mg "tuple" = none):Cl P w K mg base 6 "box" ["width", "height"] F_box :=
 d.cl (fun _ _ _ _ _ _ us hl=>match us,hl with | [_,_],_=>rfl) fun _ _ F=>Xd F sc_box rfl rfl fun cdv A outer s H E hr =>
  (Zi (psd_xp (Zp c_checked (hr.mono (by decide)) (Zb (Xn (Zb (Za 0) (Zb (Za 1) (Zb (Xn Zf) Zf)))) Zf)))
   (Zi (psd_own 2 sc_box.nd (pfd_lst Zf))
   (Zi (psd_for PassesOwn.never rfl (pid_range1 (by rfl) z_range (Zb (Za 0) Zf)) (Qx 3 sc_box.nd) (Zi (psd_app 2 (Xn (Zb Zr (Zb (Za 3) (Zb Ze (Zb Zr (Zb Zr Zf)))))))
   (Zo (psd_app 2 (Xn (Zb Zr (Zb (Za 3) (Zb (Za 1) (Zb Zr (Zb Zr Zf))))))))))
   (Zi (psd_for PassesOwn.never rfl (pid_range1 (by rfl) z_range (Zb (Za 1) Zf)) (Qx 4 sc_box.nd) (Zi (psd_app 2 (Xn (Zb Zr (Zb Ze (Zb (Za 4) (Zb Zr (Zb Zr Zf)))))))
   (Zo (psd_app 2 (Xn (Zb Zr (Zb (Za 0) (Zb (Za 4) (Zb Zr (Zb Zr Zf))))))))))
   (psd_frz 2 (Zo (Zs (Zp c_checked (hr.mono (by decide)) (Zb (Xn (Zb (Za 0) (Zb (Za 1) (Zb (Yo cd_tuple (by rfl) z_tuple (by rfl) (Zb (Za 2) Zf)) Zf)))) Zf)))))))))
noncomputable def F_whole_in:List D->M S:=fnD 2 0
  (Zw (sIf (tO (tB (eOp gEq (eCB Ys (Zd (Zc 0) Zh)) (eC (.int 0)))) (tO (tB (eOp gGt (eCB Ys (Zd (Zc 0) Zh)) (Zc 1))) (tN (tB (eCB bAll (Zd (eNew (Xf (iStr (Zc 0)) 1 [] (gNm 0) (eOp gInX (Zc 0) (eC (.str (Str.ofString "0123456789")))))) Zh)))))) (Qq (eC .non)) Yz)
   (Qq (eIf (tO (tB (eOp gEq (Zc 0) (eC (.str (Str.ofString "0"))))) (tB (eOp gNe (eOp gIx (Zc 0) (eC (.int 0))) (eC (.str (Str.ofString "0")))))) (eCB bIntX (Zd (Zc 0) Zh)) (eC .non))))
theorem sc_whole_in:FnScope ["word", "most_figures"] ["word", "most_figures"] (Zg s_whole_in):=⟨rfl,rfl,rfl,by decide +kernel,rfl,by decide +kernel,by decide +kernel⟩
theorem ok_whole_in (d:Dm K mg "whole_in" s_whole_in) (z_len:mg "len" = none) (z_all:mg "all" = none) (z_int:mg "int" = none) {tk_FIGURES:Tok} (gs_FIGURES:mg "FIGURES" = some (.str (Str.ofString "0123456789") tk_FIGURES)):Cl P w K mg base 1 "whole_in" ["word", "most_figures"] F_whole_in :=
 d.cl (fun _ _ _ _ _ _ us hl=>match us,hl with | [_,_],_=>rfl) fun _ _ F=>Xd F sc_whole_in rfl rfl fun cdv A outer s H E hr =>
  (Zi (Q3 ((Yy (Zu (Yi hr.units) (Z5 cd_len (by rfl) z_len (by rfl) (Zb (Za 0) Zf)) Ze (Zq _)) (Yy (Zu od_gt (Z5 cd_len (by rfl) z_len (by rfl) (Zb (Za 0) Zf)) (Za 1) (Zq _)) (Y8 (Yv (Yf (Z5 (cd_all rfl) (by rfl) z_all (by rfl) (Zb (pd_new (pfd_comp (Nc:=["sign"]) rfl (closureFor_none (by decide +kernel)) (cap0 rfl (by decide +kernel)) rfl (by decide +kernel) (by decide +kernel) (keep_name (by decide)) (pid_str (Za 0)) (fun s3 H3 C ex=>Qx 0 (show(["sign"]:List Str).Nodup by decide +kernel)) (fun s3 H3 C ex=>by exact(Yl od_inX (Za 0) (pd_globS gs_FIGURES) (by with_unfolding_all rfl))))) Zf)))))))).pt (Zo (Zs pd_non)) Qk)
   (Zo (Zs (pd_ifexp ((Yy (Zu (Yi hr.units) (Za 0) Zr (Zq _)) (Y8 (Zu (od_ne hr.units) (Zv (Za 0) Ze (fun _ _=>rfl)) Zr (Zq _))))).pt (Yo cd_intX (by rfl) z_int (by rfl) (Zb (Za 0) Zf)) pd_non))))
noncomputable def Xp:List D->M S:=fnD 1 0
  (Qq (eAnd (eOp gLt (eC (.int 0)) (eCB Ys (Zd (Zc 0) Zh))) (eAnd (eOp gLe (eCB Ys (Zd (Zc 0) Zh)) (eC (.int 8))) (eCB bAll (Zd (eNew (Xf (iStr (Zc 0)) 1 [] (gNm 0) (eOp gInX (Zc 0) (eC (.str (Str.ofString "abcdefghijklmnopqrstuvwxyz")))))) Zh)))))
theorem sc_is_name:FnScope ["word"] ["word"] (Zg s_is_name):=⟨rfl,rfl,rfl,by decide +kernel,rfl,by decide +kernel,by decide +kernel⟩
theorem ok_is_name (d:Dm K mg "is_name" s_is_name) (z_len:mg "len" = none) (z_all:mg "all" = none) {tk_MOST_LETTERS:Tok} (gi_MOST_LETTERS:mg "MOST_LETTERS" = some (.int 8 tk_MOST_LETTERS)) {tk_LETTERS:Tok} (gs_LETTERS:mg "LETTERS" = some (.str (Str.ofString "abcdefghijklmnopqrstuvwxyz") tk_LETTERS)):Cl P w K mg base 1 "is_name" ["word"] Xp :=
 d.cl (fun _ _ _ _ _ _ us hl=>match us,hl with | [_],_=>rfl) fun _ _ F=>Xd F sc_is_name rfl rfl fun cdv A outer s H E hr =>
  (Zo (Zs (pd_and (Yl od_lt Ze (Z5 cd_len (by rfl) z_len (by rfl) (Zb (Za 0) Zf)) (Zq _)) (pd_and (Yl od_le (Z5 cd_len (by rfl) z_len (by rfl) (Zb (Za 0) Zf)) (pd_globI gi_MOST_LETTERS) (Zq _)) (pd_one (Z5 (cd_all rfl) (by rfl) z_all (by rfl) (Zb (pd_new (pfd_comp (Nc:=["sign"]) rfl (closureFor_none (by decide +kernel)) (cap0 rfl (by decide +kernel)) rfl (by decide +kernel) (by decide +kernel) (keep_name (by decide)) (pid_str (Za 0)) (fun s3 H3 C ex=>Qx 0 (show(["sign"]:List Str).Nodup by decide +kernel)) (fun s3 H3 C ex=>by exact(Yl od_inX (Za 0) (pd_globS gs_LETTERS) (by with_unfolding_all rfl))))) Zf)))))))
noncomputable def Yj:List D->M S:=fnD 1 2
  (Zw (Z9 1 (eOp gIx (Zc 0) (eC (.int 0))))
   (Zw (Z9 2 (eOp gIx (Zc 0) (eC (.int 1))))
   (Qq (eIf (tB (eOp gEq (Zc 2) (eC (.int 1)))) (eUn gFmt (Zc 1)) (eJoined (jCons (eUn gFmt (Zc 1)) (jCons (eC (.str (Str.ofString "/"))) (jCons (eUn gFmt (Zc 2)) jNil))))))))
theorem sc_show_number:FnScope ["number", "top", "bottom"] ["number"] (Zg s_show_number):=⟨rfl,rfl,rfl,by decide +kernel,rfl,by decide +kernel,by decide +kernel⟩
theorem ok_show_number (d:Dm K mg "show_number" s_show_number)  : Cl P w K mg base 1 "show_number" ["number"] Yj :=
 d.cl (fun _ _ _ _ _ _ us hl=>match us,hl with | [_],_=>rfl) fun _ _ F=>Xd F sc_show_number rfl rfl fun cdv A outer s H E hr =>
  (Zi (Zy 1 sc_show_number.nd (Zv (Za 0) Ze (fun _ _=>rfl)))
   (Zi (Zy 2 sc_show_number.nd (Zv (Za 0) Ze (fun _ _=>rfl)))
   (Zo (Zs (pd_ifexp (Zu (Yi hr.units) (Za 2) Ze (Zq _)) (pd_joined1 (pd_fmt (Za 1))) (pd_joined (pjd_cons (pd_fmt (Za 1)) (pjd_cons Zr (pjd_cons (pd_fmt (Za 2)) pjd_nil)))))))))
noncomputable def F_any_word:List D->M S:=fnD 1 0
  (Qq (Zc 0))
theorem sc_any_word:FnScope ["word"] ["word"] (Zg s_any_word):=⟨rfl,rfl,rfl,by decide +kernel,rfl,by decide +kernel,by decide +kernel⟩
theorem ok_any_word (d:Dm K mg "any_word" s_any_word)  : Cl P w K mg base 1 "any_word" ["word"] F_any_word :=
 d.cl (fun _ _ _ _ _ _ us hl=>match us,hl with | [_],_=>rfl) fun _ _ F=>Xd F sc_any_word rfl rfl fun cdv A outer s H E hr =>
  (Zo (Zs (Za 0)))
noncomputable def Qb:List D->M S:=fnD 1 0
  (Qq (Zt F_whole_in (Zd (Zc 0) (Zd (eC (.int 9)) Zh))))
theorem sc_whole_word:FnScope ["word"] ["word"] (Zg s_whole_word):=⟨rfl,rfl,rfl,by decide +kernel,rfl,by decide +kernel,by decide +kernel⟩
theorem ok_whole_word (d:Dm K mg "whole_word" s_whole_word) (c_whole_in:Cl P w K mg base 1 "whole_in" ["word", "most_figures"] F_whole_in) {tk_MOST_FIGURES:Tok} (gi_MOST_FIGURES:mg "MOST_FIGURES" = some (.int 9 tk_MOST_FIGURES)):Cl P w K mg base 2 "whole_word" ["word"] Qb :=
 d.cl (fun _ _ _ _ _ _ us hl=>match us,hl with | [_],_=>rfl) fun _ _ F=>Xd F sc_whole_word rfl rfl fun cdv A outer s H E hr =>
  (Zo (Zs (Zp c_whole_in (hr.mono (by decide)) (Zb (Za 0) (Zb (pd_globI gi_MOST_FIGURES) Zf)))))
noncomputable def Qt:List D->M S:=fnD 1 5
  (Zw (Z9 1 (eStarts (Zc 0) (eC (.str (Str.ofString "-")))))
   (Zw (Z9 2 (eIf (tB (Zc 1)) (ePart (eSlX (Zc 0) (Qi (eC (.int 1))) Qh) (eC (.str (Str.ofString "/")))) (ePart (Zc 0) (eC (.str (Str.ofString "/"))))))
   (Zw (Z9 3 (Zt Qb (Zd (eOp gIx (Zc 2) (eC (.int 0))) Zh)))
   (Zw (Z9 4 (eIf (tB (eOp gEq (eOp gIx (Zc 2) (eC (.int 1))) (eC (.str (Str.ofString "/"))))) (Zt Qb (Zd (eOp gIx (Zc 2) (eC (.int 2))) Zh)) (eC (.int 1))))
   (Zw (sIf (tO (tB (eOp gIsN (Zc 3) (eC .non))) (tO (tB (eOp gIsN (Zc 4) (eC .non))) (tB (eOp gEq (Zc 4) (eC (.int 0)))))) (Qq (eC .non)) Yz)
   (Zw (Z9 5 (Zt F_amount (Zd (eIf (tB (Zc 1)) (eUn gNeg (Zc 3)) (Zc 3)) (Zd (Zc 4) Zh))))
   (Qq (eIf (tB (eOp gEq (Zt Yj (Zd (Zc 5) Zh)) (Zc 0))) (Zc 5) (eC .non)))))))))
theorem sc_number_word:FnScope ["word", "is_less", "parts", "top", "bottom", "number"] ["word"] (Zg s_number_word):=⟨rfl,rfl,rfl,by decide +kernel,rfl,by decide +kernel,by decide +kernel⟩
theorem ok_number_word (d:Dm K mg "number_word" s_number_word) (c_whole_word:Cl P w K mg base 2 "whole_word" ["word"] Qb) (c_amount:Cl P w K mg base 2 "amount" ["top", "bottom"] F_amount) (c_show_number:Cl P w K mg base 1 "show_number" ["number"] Yj):Cl P w K mg base 3 "number_word" ["word"] Qt :=
 d.cl (fun _ _ _ _ _ _ us hl=>match us,hl with | [_],_=>rfl) fun _ _ F=>Xd F sc_number_word rfl rfl fun cdv A outer s H E hr =>
  (Zi (Zy 1 sc_number_word.nd (pd_starts (Za 0) Zr))
   (Zi (Zy 2 sc_number_word.nd (pd_ifexp (Yf (Za 1)) (pd_part (Yq (Za 0) (Qm Ze) Ql) Zr) (pd_part (Za 0) Zr)))
   (Zi (Zy 3 sc_number_word.nd (Zp c_whole_word (hr.mono (by decide)) (Zb (Zv (Za 2) Ze (fun _ _=>rfl)) Zf)))
   (Zi (Zy 4 sc_number_word.nd (pd_ifexp (Zu (Yi hr.units) (Zv (Za 2) Ze (fun _ _=>rfl)) Zr (Zq _)) (Zp c_whole_word (hr.mono (by decide)) (Zb (Zv (Za 2) Ze (fun _ _=>rfl)) Zf)) Ze))
   (Zi (Q3 ((Yy (Zu od_isN (Za 3) pd_non (Zq _)) (Yy (Zu od_isN (Za 4) pd_non (Zq _)) (Y8 (Zu (Yi hr.units) (Za 4) Ze (Zq _)))))).pt (Zo (Zs pd_non)) Qk)
   (Zi (Zy 5 sc_number_word.nd (Zp c_amount (hr.mono (by decide)) (Zb (pd_ifexp (Yf (Za 1)) (pd_un ud_neg (Za 3)) (Za 3)) (Zb (Za 4) Zf))))
   (Zo (Zs (pd_ifexp (Zu (Yi hr.units) (Zp c_show_number (hr.mono (by decide)) (Zb (Za 5) Zf)) (Za 0) (Zq _)) (Za 5) pd_non)))))))))
noncomputable def Y5:List D->M S:=fnD 2 4
  (Zw (sOwn 2 (fLst Zh))
   (Zw (Z9 3 (eOp Yd (eOp Yt (eOp Zz (eOp Yd (Zc 0) (eC (.int 1999999973))) (eC (.int 31))) (eC (.int 765432101))) (eC (.int 1999999973))))
   (Zw (Z9 4 (eC (.int 0)))
   (Zw (sIf (tO (tB (eOp gLt (Zc 0) (eC (.int 0)))) (tB (eOp gGe (Zc 0) (eOp gPow (eC (.int 10)) (eC (.int 18)))))) (Z9 4 (eCB bAbs (Zd (Zc 0) Zh))) Yz)
   (Zw (sFor (iRange1 (Zd (Zc 1) Zh)) (gNm 5) (Zw (Z9 3 (eOp Yd (eOp Zz (eOp Zz (eOp Yt (Zc 3) (eOp Zz (eOp Yd (Zc 3) (eC (.int 65521))) (eC (.int 40487)))) (eOp Yt (eC (.int 7)) (Zc 5))) (eC (.int 5))) (eC (.int 1999999973))))
   (Zw (sApp 2 (eOp gIx (eLst (Zd (Zc 3) (Zd (eOp Yd (Zc 4) (eC (.int 1000000))) Zh))) (eCB bInt (Zd (eOp gGt (Zc 4) (eC (.int 0))) Zh))))
   (Z9 4 (eOp gFdiv (Zc 4) (eC (.int 1000000)))))))
   (sRetO 2))))))
theorem sc_l_numbers:FnScope ["_law_cell_here", "_law_many", "_law_found", "_law_number_here", "_law_digits", "_law_k"] ["_law_cell_here", "_law_many"] (Zg s_l_numbers):=⟨rfl,rfl,rfl,by decide +kernel,rfl,by decide +kernel,by decide +kernel⟩
theorem ok_l_numbers (d:Dm K mg "_law_numbers" s_l_numbers) (z_abs:mg "abs" = none) (z_range:mg "range" = none) (z_int:mg "int" = none):Cl P w K mg base 1 "_law_numbers" ["_law_cell_here", "_law_many"] Y5 :=
 d.cl (fun _ _ _ _ _ _ us hl=>match us,hl with | [_,_],_=>rfl) fun _ _ F=>Xd F sc_l_numbers rfl rfl fun cdv A outer s H E hr =>
  (Zi (psd_own 2 sc_l_numbers.nd (pfd_lst Zf))
   (Zi (Zy 3 sc_l_numbers.nd (Zx Yx (Zx od_times (Zx Qg (Zx Yx (Za 0) Ze) Ze) Ze) Ze))
   (Zi (Zy 4 sc_l_numbers.nd Ze)
   (Zi (Q3 ((Yy (Zu od_lt (Za 0) Ze (Zq _)) (Y8 (Zu od_ge (Za 0) (Zx od_pow Ze Ze) (Zq _))))).pt (Zo (Zy 4 sc_l_numbers.nd (Z5 cd_abs (by rfl) z_abs (by rfl) (Zb (Za 0) Zf)))) Qk)
   (Zi (psd_for PassesOwn.never rfl (pid_range1 (by rfl) z_range (Zb (Za 1) Zf)) (Qx 5 sc_l_numbers.nd) (Zi (Zy 3 sc_l_numbers.nd (Zx Yx (Zx Qg (Zx Qg (Zx od_times (Za 3) (Zx Qg (Zx Yx (Za 3) Ze) Ze)) (Zx od_times Ze (Za 5))) Ze) Ze))
   (Zi (psd_app 2 (Zv (pd_lst (Zb (Za 3) (Zb (Zx Yx (Za 4) Ze) Zf))) (Yo cd_int (by rfl) z_int (by rfl) (Zb (Yl od_gt (Za 4) Ze (Zq _)) Zf)) (fun _ _=>rfl)))
   (Zo (Zy 4 sc_l_numbers.nd (Zx od_fdiv (Za 4) Ze))))))
   (Zo (psd_retO 2)))))))
noncomputable def Y2:List D->M S:=fnD 2 0
  (Zw (Z9 0 (eCB bAbs (Zd (Zc 0) Zh)))
   (Zw (Z9 1 (eCB bAbs (Zd (Zc 1) Zh)))
   (Zw (sWhile (tB (eOp gGt (Zc 1) (eC (.int 0)))) (sPar 0 1 (Zd (Zc 1) (Zd (eOp Yd (Zc 0) (Zc 1)) Zh))))
   (Qq (Zc 0)))))
theorem sc_l_common:FnScope ["_law_one", "_law_other"] ["_law_one", "_law_other"] (Zg s_l_common):=⟨rfl,rfl,rfl,by decide +kernel,rfl,by decide +kernel,by decide +kernel⟩
theorem ok_l_common (d:Dm K mg "_law_common" s_l_common) (z_abs:mg "abs" = none):Cl P w K mg base 1 "_law_common" ["_law_one", "_law_other"] Y2 :=
 d.cl (fun _ _ _ _ _ _ us hl=>match us,hl with | [_,_],_=>rfl) fun _ _ F=>Xd F sc_l_common rfl rfl fun cdv A outer s H E hr =>
  (Zi (Zy 0 sc_l_common.nd (Z5 cd_abs (by rfl) z_abs (by rfl) (Zb (Za 0) Zf)))
   (Zi (Zy 1 sc_l_common.nd (Z5 cd_abs (by rfl) z_abs (by rfl) (Zb (Za 1) Zf)))
   (Zi (psd_while PassesOwn.never (Zu od_gt (Za 1) Ze (Zq _)) (Zo (psd_par 0 1 rfl sc_l_common.nd (Zb (Za 1) (Zb (Zx Yx (Za 0) (Za 1)) Zf)) (by rfl))))
   (Zo (Zs (Za 0))))))
noncomputable def F_l_lowest:List D->M S:=fnD 2 1
  (Zw (Z9 2 (Zt Y2 (Zd (Zc 0) (Zd (Zc 1) Zh))))
   (Qq (eTup (Zd (eOp gFdiv (Zc 0) (Zc 2)) (Zd (eOp gFdiv (Zc 1) (Zc 2)) Zh)))))
theorem sc_l_lowest:FnScope ["_law_top", "_law_bottom", "_law_shared"] ["_law_top", "_law_bottom"] (Zg s_l_lowest):=⟨rfl,rfl,rfl,by decide +kernel,rfl,by decide +kernel,by decide +kernel⟩
theorem ok_l_lowest (d:Dm K mg "_law_lowest" s_l_lowest) (c_l_common:Cl P w K mg base 1 "_law_common" ["_law_one", "_law_other"] Y2):Cl P w K mg base 2 "_law_lowest" ["_law_top", "_law_bottom"] F_l_lowest :=
 d.cl (fun _ _ _ _ _ _ us hl=>match us,hl with | [_,_],_=>rfl) fun _ _ F=>Xd F sc_l_lowest rfl rfl fun cdv A outer s H E hr =>
  (Zi (Zy 2 sc_l_lowest.nd (Zp c_l_common (hr.mono (by decide)) (Zb (Za 0) (Zb (Za 1) Zf))))
   (Zo (Zs (Xn (Zb (Zx od_fdiv (Za 0) (Za 2)) (Zb (Zx od_fdiv (Za 1) (Za 2)) Zf))))))
noncomputable def Q6:List D->M S:=fnD 1 0
  (Zw (sIf (tB (eOp gEq (eOp gIx (Zc 0) (eC (.int 1))) (eC (.int 1)))) (Qq (eCB bStrI (Zd (eOp gIx (Zc 0) (eC (.int 0))) Zh))) Yz)
   (Qq (eOp Zz (eOp Zz (eCB bStrI (Zd (eOp gIx (Zc 0) (eC (.int 0))) Zh)) (eC (.str (Str.ofString "/")))) (eCB bStrI (Zd (eOp gIx (Zc 0) (eC (.int 1))) Zh)))))
theorem sc_l_number:FnScope ["_law_number_here"] ["_law_number_here"] (Zg s_l_number):=⟨rfl,rfl,rfl,by decide +kernel,rfl,by decide +kernel,by decide +kernel⟩
theorem ok_l_number (d:Dm K mg "_law_number" s_l_number) (z_str:mg "str" = none):Cl P w K mg base 1 "_law_number" ["_law_number_here"] Q6 :=
 d.cl (fun _ _ _ _ _ _ us hl=>match us,hl with | [_],_=>rfl) fun _ _ F=>Xd F sc_l_number rfl rfl fun cdv A outer s H E hr =>
  (Zi (Q3 (Zu (Yi hr.units) (Zv (Za 0) Ze (fun _ _=>rfl)) Ze (Zq _)) (Zo (Zs (Yo cd_strI (by rfl) z_str (by rfl) (Zb (Zv (Za 0) Ze (fun _ _=>rfl)) Zf)))) Qk)
   (Zo (Zs (Zx Qg (Zx Qg (Yo cd_strI (by rfl) z_str (by rfl) (Zb (Zv (Za 0) Ze (fun _ _=>rfl)) Zf)) Zr) (Yo cd_strI (by rfl) z_str (by rfl) (Zb (Zv (Za 0) Ze (fun _ _=>rfl)) Zf))))))
noncomputable def Qu:List D->M S:=fnD 1 2
  (Zw (sOwn 1 (fSplit (Zc 0) (eC (.str (Str.ofString "/")))))
   (Zw (sIf (tView 1 (tB (eOp gEq (eSlX (eOp gIx (Zc 1) (eC (.int 0))) Qh (Qi (eC (.int 1)))) (eC (.str (Str.ofString "-")))))) (Zw (sLPut 1 (eC (.int 0)) (eSlX (eOIx 1 (eC (.int 0))) (Qi (eC (.int 1))) Qh))
   (sFrz 1 (sIf (tB (eOp gEq (eOp gIx (Zc 1) (eC (.int 0))) (eC (.str (Str.ofString "0"))))) (Qq (eC (.bl false))) Yz))) Yz)
   (sFrz 1 (Zw (sFor (iSeq (Zc 1)) (gNm 2) (Zw (sIf (tO (tB (eOp gEq (Zc 2) (eC (.str (Str.ofString ""))))) (tO (tB (eOp gGt (eCB Ys (Zd (Zc 2) Zh)) (eC (.int 9)))) (tN (tB (eCB bAll (Zd (eNew (Xf (iStr (Zc 2)) 1 [] (gNm 0) (eOp gInX (Zc 0) (eC (.str (Str.ofString "0123456789")))))) Zh)))))) (Qq (eC (.bl false))) Yz)
   (sIf (tA (tB (eOp gGt (eCB Ys (Zd (Zc 2) Zh)) (eC (.int 1)))) (tB (eOp gEq (eOp gIx (Zc 2) (eC (.int 0))) (eC (.str (Str.ofString "0")))))) (Qq (eC (.bl false))) Yz)))
   (Zw (sIf (tB (eOp gEq (eCB Ys (Zd (Zc 1) Zh)) (eC (.int 1)))) (Qq (eC (.bl true))) Yz)
   (Qq (eAnd (eOp gEq (eCB Ys (Zd (Zc 1) Zh)) (eC (.int 2))) (eAnd (eOp gGt (eCB bIntX (Zd (eOp gIx (Zc 1) (eC (.int 1))) Zh)) (eC (.int 1))) (eOp gEq (Zt Y2 (Zd (eCB bIntX (Zd (eOp gIx (Zc 1) (eC (.int 0))) Zh)) (Zd (eCB bIntX (Zd (eOp gIx (Zc 1) (eC (.int 1))) Zh)) Zh))) (eC (.int 1)))))))))))
theorem sc_l_is_number:FnScope ["_law_word", "_law_parts", "_law_part"] ["_law_word"] (Zg s_l_is_number):=⟨rfl,rfl,rfl,by decide +kernel,rfl,by decide +kernel,by decide +kernel⟩
theorem ok_l_is_number (d:Dm K mg "_law_is_number" s_l_is_number) (c_l_common:Cl P w K mg base 1 "_law_common" ["_law_one", "_law_other"] Y2) (z_len:mg "len" = none) (z_all:mg "all" = none) (z_int:mg "int" = none):Cl P w K mg base 2 "_law_is_number" ["_law_word"] Qu :=
 d.cl (fun _ _ _ _ _ _ us hl=>match us,hl with | [_],_=>rfl) fun _ _ F=>Xd F sc_l_is_number rfl rfl fun cdv A outer s H E hr =>
  (Zi (psd_own 1 sc_l_is_number.nd (pfd_split (Za 0) Zr))
   (Zi (Q3 (ptd_view 1 (Zu (Yi hr.units) (Yq (Zv (Za 1) Ze (fun _ _=>rfl)) Ql (Qm Ze)) Zr (Zq _))) (Zi (psd_lput 1 Ze (Yq (pd_oix 1 Ze (fun _ _=>rfl)) (Qm Ze) Ql))
   (psd_frz 1 (Zo (Q3 (Zu (Yi hr.units) (Zv (Za 1) Ze (fun _ _=>rfl)) Zr (Zq _)) (Zo (Zs pd_bl)) Qk)))) Qk)
   (psd_frz 1 (Zi (psd_for PassesOwn.never rfl (pid_seq (Za 1)) (Qx 2 sc_l_is_number.nd) (Zi (Q3 ((Yy (Zu (Yi hr.units) (Za 2) Zr (Zq _)) (Yy (Zu od_gt (Z5 cd_len (by rfl) z_len (by rfl) (Zb (Za 2) Zf)) Ze (Zq _)) (Y8 (Yv (Yf (Z5 (cd_all rfl) (by rfl) z_all (by rfl) (Zb (pd_new (pfd_comp (Nc:=["_law_sign"]) rfl (closureFor_none (by decide +kernel)) (cap0 rfl (by decide +kernel)) rfl (by decide +kernel) (by decide +kernel) (keep_name (by decide)) (pid_str (Za 2)) (fun s3 H3 C ex=>Qx 0 (show(["_law_sign"]:List Str).Nodup by decide +kernel)) (fun s3 H3 C ex=>by exact(Yl od_inX (Za 0) Zr (by with_unfolding_all rfl))))) Zf)))))))).pt (Zo (Zs pd_bl)) Qk)
   (Zo (Q3 ((pwd_and (Zu od_gt (Z5 cd_len (by rfl) z_len (by rfl) (Zb (Za 2) Zf)) Ze (Zq _)) (pwd_and1 (Zu (Yi hr.units) (Zv (Za 2) Ze (fun _ _=>rfl)) Zr (Zq _))))).pt (Zo (Zs pd_bl)) Qk))))
   (Zi (Q3 (Zu (Yi hr.units) (Z5 cd_len (by rfl) z_len (by rfl) (Zb (Za 1) Zf)) Ze (Zq _)) (Zo (Zs pd_bl)) Qk)
   (Zo (Zs (pd_and (Yl (Yi hr.units) (Z5 cd_len (by rfl) z_len (by rfl) (Zb (Za 1) Zf)) Ze (Zq _)) (pd_and (Yl od_gt (Yo cd_intX (by rfl) z_int (by rfl) (Zb (Zv (Za 1) Ze (fun _ _=>rfl)) Zf)) Ze (Zq _)) (pd_one (Yl (Yi hr.units) (Zp c_l_common (hr.mono (by decide)) (Zb (Yo cd_intX (by rfl) z_int (by rfl) (Zb (Zv (Za 1) Ze (fun _ _=>rfl)) Zf)) (Zb (Yo cd_intX (by rfl) z_int (by rfl) (Zb (Zv (Za 1) Ze (fun _ _=>rfl)) Zf)) Zf))) Ze (Zq _))))))))))))
noncomputable def F_l_bent:List D->M S:=fnD 2 3
  (Zw (Z9 2 (eOp gIx (eC (.str (Str.ofString "0123456789/-+ ."))) (eOp Yd (Zc 1) (eC (.int 15)))))
   (Zw (Z9 3 (eOp Yd (eOp gFdiv (Zc 1) (eC (.int 15))) (eOp Zz (eCB Ys (Zd (Zc 0) Zh)) (eC (.int 1)))))
   (Zw (Z9 4 (eLst (Zd (Zc 0) (Zd (eOp Zz (eOp Zz (eSlX (Zc 0) Qh (Qi (Zc 3))) (Zc 2)) (eSlX (Zc 0) (Qi (Zc 3)) Qh)) (Zd (eOp Zz (eSlX (Zc 0) Qh (Qi (Zc 3))) (eSlX (Zc 0) (Qi (eOp Zz (Zc 3) (eC (.int 1)))) Qh)) (Zd (eOp Zz (eOp Zz (eSlX (Zc 0) Qh (Qi (Zc 3))) (Zc 2)) (eSlX (Zc 0) (Qi (eOp Zz (Zc 3) (eC (.int 1)))) Qh)) Zh))))))
   (Qq (eOp gIx (Zc 4) (eOp Yd (eOp gFdiv (Zc 1) (eC (.int 1000))) (eC (.int 4))))))))
theorem sc_l_bent:FnScope ["_law_word", "_law_number_here", "_law_sign", "_law_at", "_law_some"] ["_law_word", "_law_number_here"] (Zg s_l_bent):=⟨rfl,rfl,rfl,by decide +kernel,rfl,by decide +kernel,by decide +kernel⟩
theorem ok_l_bent (d:Dm K mg "_law_bent" s_l_bent) (z_len:mg "len" = none):Cl P w K mg base 1 "_law_bent" ["_law_word", "_law_number_here"] F_l_bent :=
 d.cl (fun _ _ _ _ _ _ us hl=>match us,hl with | [_,_],_=>rfl) fun _ _ F=>Xd F sc_l_bent rfl rfl fun cdv A outer s H E hr =>
  (Zi (Zy 2 sc_l_bent.nd (Zv Zr (Zx Yx (Za 1) Ze) (fun _ _=>rfl)))
   (Zi (Zy 3 sc_l_bent.nd (Zx Yx (Zx od_fdiv (Za 1) Ze) (Zx Qg (Z5 cd_len (by rfl) z_len (by rfl) (Zb (Za 0) Zf)) Ze)))
   (Zi (Zy 4 sc_l_bent.nd (pd_lst (Zb (Za 0) (Zb (Zx Qg (Zx Qg (Yq (Za 0) Ql (Qm (Za 3))) (Za 2)) (Yq (Za 0) (Qm (Za 3)) Ql)) (Zb (Zx Qg (Yq (Za 0) Ql (Qm (Za 3))) (Yq (Za 0) (Qm (Zx Qg (Za 3) Ze)) Ql)) (Zb (Zx Qg (Zx Qg (Yq (Za 0) Ql (Qm (Za 3))) (Za 2)) (Yq (Za 0) (Qm (Zx Qg (Za 3) Ze)) Ql)) Zf))))))
   (Zo (Zs (Zv (Za 4) (Zx Yx (Zx od_fdiv (Za 1) Ze) Ze) (fun _ _=>rfl)))))))
noncomputable def Yk:List D->M S:=fnD 2 1
  (Zw (Z9 2 (eOp Zz (eC (.int 2)) (eOp Yd (eOp gIx (Zc 0) (eC (.int 0))) (eOp gIx (eLst (Zd (eC (.int 9)) (Zd (eC (.int 99)) (Zd (eC (.int 999)) Zh)))) (eOp Yd (eOp gIx (Zc 0) (eC (.int 1))) (eC (.int 3)))))))
   (Qq (Zt F_l_lowest (Zd (eOp Zz (eC (.int 1)) (eOp Yd (eOp gIx (Zc 0) (eC (.int 2))) (eOp gSub (eOp Yt (Zc 1) (Zc 2)) (eC (.int 1))))) (Zd (Zc 2) Zh)))))
theorem sc_l_drawn:FnScope ["_law_xs", "_law_size", "_law_bottom"] ["_law_xs", "_law_size"] (Zg s_l_drawn):=⟨rfl,rfl,rfl,by decide +kernel,rfl,by decide +kernel,by decide +kernel⟩
theorem ok_l_drawn (d:Dm K mg "_law_drawn" s_l_drawn) (c_l_lowest:Cl P w K mg base 2 "_law_lowest" ["_law_top", "_law_bottom"] F_l_lowest):Cl P w K mg base 3 "_law_drawn" ["_law_xs", "_law_size"] Yk :=
 d.cl (fun _ _ _ _ _ _ us hl=>match us,hl with | [_,_],_=>rfl) fun _ _ F=>Xd F sc_l_drawn rfl rfl fun cdv A outer s H E hr =>
  (Zi (Zy 2 sc_l_drawn.nd (Zx Qg Ze (Zx Yx (Zv (Za 0) Ze (fun _ _=>rfl)) (Zv (pd_lst (Zb Ze (Zb Ze (Zb Ze Zf)))) (Zx Yx (Zv (Za 0) Ze (fun _ _=>rfl)) Ze) (fun _ _=>rfl)))))
   (Zo (Zs (Zp c_l_lowest (hr.mono (by decide)) (Zb (Zx Qg Ze (Zx Yx (Zv (Za 0) Ze (fun _ _=>rfl)) (Zx od_sub (Zx od_times (Za 1) (Za 2)) Ze))) (Zb (Za 2) Zf))))))
noncomputable def Yp:List D->M S:=fnD 2 2
  (Zw (sIf (tO (tB (eOp gNinX (eC (.str (Str.ofString "/"))) (Zc 0))) (tB (eOp gEq (eOp gIx (Zc 0) (eC (.int 0))) (eC (.str (Str.ofString "-")))))) (Qq (eC (.bl false))) Yz)
   (Zw (sAsg (eNew (Xf (iSeq (Xa (Zc 0) (eC (.str (Str.ofString "/"))))) 1 [] (gNm 0) (eCB bIntX (Zd (Zc 0) Zh)))) (gTupD 2 (Y0 (gNm 2) (Y0 (gNm 3) gsNil))))
   (Qq (eOp gLt (Zc 2) (eOp Yt (Zc 1) (Zc 3))))))
theorem sc_l_stands:FnScope ["_law_word", "_law_size", "_law_top", "_law_bottom"] ["_law_word", "_law_size"] (Zg s_l_stands):=⟨rfl,rfl,rfl,by decide +kernel,rfl,by decide +kernel,by decide +kernel⟩
theorem ok_l_stands (d:Dm K mg "_law_stands" s_l_stands) (z_int:mg "int" = none):Cl P w K mg base 1 "_law_stands" ["_law_word", "_law_size"] Yp :=
 d.cl (fun _ _ _ _ _ _ us hl=>match us,hl with | [_,_],_=>rfl) fun _ _ F=>Xd F sc_l_stands rfl rfl fun cdv A outer s H E hr =>
  (Zi (Q3 ((Yy (Zu od_ninX Zr (Za 0) (by with_unfolding_all rfl)) (Y8 (Zu (Yi hr.units) (Zv (Za 0) Ze (fun _ _=>rfl)) Zr (Zq _))))).pt (Zo (Zs pd_bl)) Qk)
   (Zi (psd_asg (pd_new (pfd_comp (Nc:=["_law_part"]) rfl (closureFor_none (by decide +kernel)) (cap0 rfl (by decide +kernel)) rfl (by decide +kernel) (by decide +kernel) (keep_name (by decide)) (pid_seq (pd_split (Za 0) Zr)) (fun s3 H3 C ex=>Qx 0 (show(["_law_part"]:List Str).Nodup by decide +kernel)) (fun s3 H3 C ex=>(Yo cd_intX (by rfl) z_int (by rfl) (Zb (Za 0) Zf))))) (pgd_tup rfl (pgsd_cons (Qx 2 sc_l_stands.nd) (pgsd_cons (Qx 3 sc_l_stands.nd) pgsd_nil))))
   (Zo (Zs (Yl od_lt (Za 2) (Zx od_times (Za 1) (Za 3)) (Zq _))))))
noncomputable def Xs:List D->M S:=fnD 1 0
  (Qq (eOr (eOp gNinX (eC (.str (Str.ofString "/"))) (Zc 0)) (eOp gLt (eCB Ys (Zd (eOp gIx (Xa (Zc 0) (eC (.str (Str.ofString "/")))) (eC (.int 1))) Zh)) (eC (.int 4)))))
theorem sc_l_small:FnScope ["_law_word"] ["_law_word"] (Zg s_l_small):=⟨rfl,rfl,rfl,by decide +kernel,rfl,by decide +kernel,by decide +kernel⟩
theorem ok_l_small (d:Dm K mg "_law_small" s_l_small) (z_len:mg "len" = none):Cl P w K mg base 1 "_law_small" ["_law_word"] Xs :=
 d.cl (fun _ _ _ _ _ _ us hl=>match us,hl with | [_],_=>rfl) fun _ _ F=>Xd F sc_l_small rfl rfl fun cdv A outer s H E hr =>
  (Zo (Zs (pd_or (Yl od_ninX Zr (Za 0) (by with_unfolding_all rfl)) (pd_one (Yl od_lt (Z5 cd_len (by rfl) z_len (by rfl) (Zb (Zv (pd_split (Za 0) Zr) Ze (fun _ _=>rfl)) Zf)) Ze (Zq _))))))
noncomputable def Xt:List D->M (List Str):=fForm "NoRow" "hide" kFORMS
theorem sc_form_of:FnScope ["first", "count", "form"] ["first", "count"] (Zg s_form_of):=⟨rfl,rfl,rfl,by decide +kernel,rfl,by decide +kernel,by decide +kernel⟩
theorem ok_form_of (d:Dm K mg "form_of" s_form_of) (z_len:mg "len" = none) (q_NoRow:Xq K mg "NoRow") (g_FORMS:DkG w K mg (txIs K) "FORMS" kFORMS):ClT P w K mg base 3 "form_of" ["first", "count"] Xt :=
 d.clT (fun _ _ _ _ _ _ us hl=>match us,hl with | [_,_],_=>rfl) fun _ _ F=>fn_form F sc_form_of rfl rfl fun cdv A outer s H E hr =>
  pss_form g_FORMS q_NoRow out_fn rfl sc_form_of.nd z_len
noncomputable def Yh:List D->M S:=fnD 1 7
  (Zw (sIf (tN (tB (eIs "str" (Zc 0)))) (sRaise0 "NoRow") Yz)
   (Zw (Z9 1 (ePart (Zc 0) (eC (.str (Str.ofString " ")))))
   (Zw (sIf (tA (tB (eOp gEq (eOp gIx (Zc 1) (eC (.int 0))) (eC (.str (Str.ofString "hall"))))) (tB (eOp gEq (eOp gIx (Zc 1) (eC (.int 1))) (eC (.str (Str.ofString " ")))))) (Qq (eLst (Zd (eC (.str (Str.ofString "hall"))) (Zd (eOp gIx (Zc 1) (eC (.int 2))) Zh)))) Yz)
   (Zw (Z9 2 (Xa (Zc 0) (eC (.str (Str.ofString " ")))))
   (Zw (sOwn 3 (fLst (Zd (eOp gIx (Zc 2) (eC (.int 0))) Zh)))
   (Zw (sFor (iZipT (eSl (Zc 2) (Qi (eC (.int 1))) Qh) Xt (Zd (eOp gIx (Zc 2) (eC (.int 0))) (Zd (eOp gSub (eCB Ys (Zd (Zc 2) Zh)) (eC (.int 1))) Zh))) (gTupD 2 (Y0 (gNm 4) (Y0 (gNm 5) gsNil))) (Zw (sSetFn 6 kREADERS (Zc 5))
   (Zw (Z9 7 (fun sd=>if Xg 6 "any_word" sd then(Y9 6 "any_word" F_any_word (Zd (Zc 4) Zh)) sd else(fun sd=>if Xg 6 "whole_word" sd then(Y9 6 "whole_word" Qb (Zd (Zc 4) Zh)) sd else(Y9 6 "number_word" Qt (Zd (Zc 4) Zh)) sd) sd))
   (Zw (sIf (tB (eOp gIsN (Zc 7) (eC .non))) (sRaise0 "NoRow") Yz)
   (sApp 3 (Zc 7))))))
   (sRetO 3)))))))
theorem sc_parts_of:FnScope ["row", "halves", "words", "parts", "word", "kind", "read", "part"] ["row"] (Zg s_parts_of):=⟨rfl,rfl,rfl,by decide +kernel,rfl,by decide +kernel,by decide +kernel⟩
theorem ok_parts_of (d:Dm K mg "parts_of" s_parts_of) (c_form_of:ClT P w K mg base 3 "form_of" ["first", "count"] Xt) (n_any_word:ClN P w K mg base 1 "any_word" ["word"] F_any_word) (n_whole_word:ClN P w K mg base 2 "whole_word" ["word"] Qb) (n_number_word:ClN P w K mg base 3 "number_word" ["word"] Qt) (z_isinstance:mg "isinstance" = none) (z_str:mg "str" = none) (z_len:mg "len" = none) (z_zip:mg "zip" = none) (q_NoRow:Xq K mg "NoRow") (g_READERS:DkG w K mg (fnIs K) "READERS" kREADERS):ClX P w K mg base 8 "parts_of" ["row"] Yh :=
 d.clX (fun _ _ _ _ _ _ us hl=>match us,hl with | [_],_=>rfl) fun _ _ F=>fn_x F sc_parts_of rfl rfl fun cdv A outer s H E hr =>
  (Zi (Q3 (Yv (Yf (pd_isinst "str" (by rfl) z_isinstance z_str (by rfl) (by rfl) (Za 0)))) (Zo (psd_raise0 q_NoRow out_fn rfl)) Qk)
   (Zi (Zy 1 sc_parts_of.nd (pd_part (Za 0) Zr))
   (Zi (Q3 ((pwd_and (Zu (Yi hr.units) (Zv (Za 1) Ze (fun _ _=>rfl)) Zr (Zq _)) (pwd_and1 (Zu (Yi hr.units) (Zv (Za 1) Ze (fun _ _=>rfl)) Zr (Zq _))))).pt (Zo (Zs (pd_lst (Zb Zr (Zb (Zv (Za 1) Ze (fun _ _=>rfl)) Zf))))) Qk)
   (Zi (Zy 2 sc_parts_of.nd (pd_split (Za 0) Zr))
   (Zi (psd_own 3 sc_parts_of.nd (pfd_lst (Zb (Zv (Za 2) Ze (fun _ _=>rfl)) Zf)))
   (Zi (psd_for PassesOwn.leaving rfl (pid_zipT c_form_of (hr.mono (by decide)) out_fn z_zip (pd_slice (Za 2) (Qm Ze) Ql) (Zb (Zv (Za 2) Ze (fun _ _=>rfl)) (Zb (Zx od_sub (Z5 cd_len (by rfl) z_len (by rfl) (Zb (Za 2) Zf)) Ze) Zf))) (pgd_tup rfl (pgsd_cons (Qx 4 sc_parts_of.nd) (pgsd_cons (Qx 5 sc_parts_of.nd) pgsd_nil))) (Zi (psd_setFn 6 sc_parts_of.nd g_READERS (Za 5) (fun _ _=>rfl))
   (Zi (Zy 7 sc_parts_of.nd (pd_or2 (Xg 6 "any_word") (pd_callLC 6 n_any_word (hr.mono (by decide)) (Zb (Za 4) Zf)) (pd_or2 (Xg 6 "whole_word") (pd_callLC 6 n_whole_word (hr.mono (by decide)) (Zb (Za 4) Zf)) (pd_callLC 6 n_number_word (hr.mono (by decide)) (Zb (Za 4) Zf)))))
   (Zi (Q3 (Zu od_isN (Za 7) pd_non (Zq _)) (Zo (psd_raise0 q_NoRow out_fn rfl)) Qk)
   (Zo (psd_app 3 (Za 7)))))))
   (Zo (psd_retO 3))))))))
theorem sc_Desk_init:FnScope ["self"] ["self"] (Zg s_Desk_init):=⟨rfl,rfl,rfl,by decide +kernel,rfl,by decide +kernel,by decide +kernel⟩
theorem ok_Desk_init (d:Mm K C "__init__" "Desk.__init__" s_Desk_init) (dk:Dsk K mg C) (c_box:Cl P w K mg base 6 "box" ["width", "height"] F_box):ClD P w K mg base C 7 ["self"] F_box :=
 let ⟨_,_,G,b,kp,m⟩:=c_box.ex
 d.clD dk (fun _ _ _ _ _ _ us hl=>match us,hl with | [_],_=>rfl) fun _ _ F=>fn_desk F sc_Desk_init rfl fun cdv A outer s H E hr =>
  pss_desk dk.cl dk.hall dk.people G (hr.mono (by decide)) m kp b
noncomputable def F_number_of:Dk->List D->KE D:=fnY 1 1
  (Qz (Q5 2 kList)
   (Qz (kIf (kB (tB (eOp gNotIn (Zc 1) (Zc 2)))) (kRaise0 "NoName") kNil)
   (kRet (kD (eIdx (Zc 2) (Zc 1))))))
theorem sc_number_of:FnScope ["desk", "name", "names"] ["desk", "name"] (Zg s_number_of):=⟨rfl,rfl,rfl,by decide +kernel,rfl,by decide +kernel,by decide +kernel⟩
theorem ok_number_of (d:Dn K mg "number_of" s_number_of) (dk:Dsk K mg C) (z_list:mg "list" = none) (q_NoName:Xq K mg "NoName"):ClY P w K mg base C 3 "number_of" ["desk", "name"] F_number_of :=
 d.clY (fun _ _ _ _ _ _ us hl=>match us,hl with | [_,_],_=>rfl) fun _ _ F=>fn_y F sc_number_of rfl rfl fun cdv A outer s H E hr =>
  (Z0 (Yg 2 sc_number_of.nd (pey_list rfl dk.cl dk.people z_list))
   (Z0 (psy_if (pty_dat (Zu (od_notin (by exact hr.units)) (Za 1) (Za 2) (by with_unfolding_all rfl))) (Qy (psy_raise0 q_NoName out_fn rfl)) psy_nil)
   (Qy (psy_ret (Qa (pd_idx hr.units (Za 2) (Za 1)))))))
noncomputable def F_keep_hall:Dk->List D->KE D:=fnY 1 0
  (Qz (kSetH (Zc 1))
   (Qz kSetP
   (kRet (kD (eC (.str (Str.ofString "ok")))))))
theorem sc_keep_hall:FnScope ["desk", "hall"] ["desk", "hall"] (Zg s_keep_hall):=⟨rfl,rfl,rfl,by decide +kernel,rfl,by decide +kernel,by decide +kernel⟩
theorem ok_keep_hall (d:Dn K mg "keep_hall" s_keep_hall) (dk:Dsk K mg C):ClY P w K mg base C 3 "keep_hall" ["desk", "hall"] F_keep_hall :=
 d.clY (fun _ _ _ _ _ _ us hl=>match us,hl with | [_,_],_=>rfl) fun _ _ F=>fn_y F sc_keep_hall rfl rfl fun cdv A outer s H E hr =>
  (Z0 (psy_setH dk.cl dk.hall (Za 1))
   (Z0 (psy_setP dk.cl dk.people)
   (Qy (psy_ret (Qa Zr)))))
noncomputable def F_on_box:Dk->List D->KE D:=fnY 1 0
  (kRet (Xb F_keep_hall (Zd (Zt F_box (Zd (eOp gIx (Zc 1) (eC (.int 0))) (Zd (eOp gIx (Zc 1) (eC (.int 1))) Zh))) Zh)))
theorem sc_on_box:FnScope ["desk", "parts"] ["desk", "parts"] (Zg s_on_box):=⟨rfl,rfl,rfl,by decide +kernel,rfl,by decide +kernel,by decide +kernel⟩
theorem ok_on_box (d:Dn K mg "on_box" s_on_box) (dk:Dsk K mg C) (c_keep_hall:ClY P w K mg base C 3 "keep_hall" ["desk", "hall"] F_keep_hall) (c_box:Cl P w K mg base 6 "box" ["width", "height"] F_box):ClY P w K mg base C 7 "on_box" ["desk", "parts"] F_on_box :=
 d.clY (fun _ _ _ _ _ _ us hl=>match us,hl with | [_,_],_=>rfl) fun _ _ F=>fn_y F sc_on_box rfl rfl fun cdv A outer s H E hr =>
  (Qy (psy_ret (pey_call c_keep_hall (hr.mono (by decide)) out_fn.passes (Zb (Zp c_box (hr.mono (by decide)) (Zb (Zv (Za 1) Ze (fun _ _=>rfl)) (Zb (Zv (Za 1) Ze (fun _ _=>rfl)) Zf))) Zf))))
noncomputable def Qc:Dk->List D->KE D:=fnY 1 4
  (Qz (Q5 2 (kD (eOp gIx (Zc 1) (eC (.int 0)))))
   (Qz (kIf (kB (tN (tB (Zt Xp (Zd (Zc 2) Zh))))) (kRaise0 "NoName") kNil)
   (Qz (Q5 3 (kD (eTup (Zd (eOp gIx (Zc 1) (eC (.int 1))) (Zd (eOp gIx (Zc 1) (eC (.int 2))) Zh)))))
   (Qz (Q5 4 (kIfE (kIn (Zc 2)) (Xb F_number_of (Zd (Zc 2) Zh)) kLen))
   (Qz (kComp 5 1 [0,2] (gNm 0) (tB (eOp gNe (Zc 0) (Zc 2))) eBad)
   (Qz (kIf (kTO (kTN (kTV (kCallN Ye (kaCons kHall (kaCons (kD (Zc 3)) kaNil))))) (kB (tB (eOp gIn (Zc 3) (Zc 5))))) (kRaise "NoPerson" "number" (Zd (Zc 4) Zh)) kNil)
   (Qz (kPut (Zc 2) (Zc 3))
   (kRet (kD (eC (.str (Str.ofString "ok"))))))))))))
theorem sc_on_person:FnScope ["desk", "parts", "name", "point", "number", "others"] ["desk", "parts"] (Zg Y4):=⟨rfl,rfl,rfl,by decide +kernel,rfl,by decide +kernel,by decide +kernel⟩
theorem ok_on_person (d:Dn K mg "on_person" Y4) (dk:Dsk K mg C) (c_is_name:Cl P w K mg base 1 "is_name" ["word"] Xp) (c_number_of:ClY P w K mg base C 3 "number_of" ["desk", "name"] F_number_of) (c_may_stand:Cl P w K mg base 3 "may_stand" ["hall", "point"] Ye) (z_len:mg "len" = none) (x_NoPerson:Xr P w K mg base "NoPerson" "number") (q_NoName:Xq K mg "NoName"):ClY P w K mg base C 4 "on_person" ["desk", "parts"] Qc :=
 d.clY (fun _ _ _ _ _ _ us hl=>match us,hl with | [_,_],_=>rfl) fun _ _ F=>fn_y F sc_on_person rfl rfl fun cdv A outer s H E hr =>
  (Z0 (Yg 2 sc_on_person.nd (Qa (Zv (Za 1) Ze (fun _ _=>rfl))))
   (Z0 (psy_if (pty_dat (Yv (Yf (Zp c_is_name (hr.mono (by decide)) (Zb (Za 2) Zf))))) (Qy (psy_raise0 q_NoName out_fn rfl)) psy_nil)
   (Z0 (Yg 3 sc_on_person.nd (Qa (Xn (Zb (Zv (Za 1) Ze (fun _ _=>rfl)) (Zb (Zv (Za 1) Ze (fun _ _=>rfl)) Zf)))))
   (Z0 (Yg 4 sc_on_person.nd (pey_if (pty_in (Nat.lt_of_le_of_lt (Nat.add_le_add_left (by decide) _) hr.units) dk.cl dk.people (Za 2)) (pey_call c_number_of (hr.mono (by decide)) out_fn.passes (Zb (Za 2) Zf)) (pey_len dk.cl dk.people z_len)))
   (Z0 (psy_comp 5 (Nc:=["other", "desk", "name"]) sc_on_person.nd rfl (closure_eq (fun y hy hf=>cell_has (capF (sc:=Zg Y4) (by decide +kernel) y hy hf))) (capN (sc:=Zg Y4) rfl rfl (by decide +kernel) (capF (by decide +kernel)) (fun y hy hf=>cell_has (capF (sc:=Zg Y4) (by decide +kernel) y hy hf)) rfl (capB_ok (N:=["desk", "parts", "name", "point", "number", "others"]) rfl (by decide +kernel))) rfl (by decide +kernel) (by decide +kernel) dk.cl dk.people (keep_name (by decide)) (fun s3 H3 C ex=>Qx 0 (show(["other", "desk", "name"]:List Str).Nodup by decide +kernel)) (fun s3 H3 C ex=>by exact(Zu (od_ne hr.units) (Za 0) (Za 2) (Zq _))) (fun s3 H3 C ex=>pd_never))
   (Z0 (psy_if (pwy_or (pty_not (pty_val (pey_callN c_may_stand (hr.mono (by decide)) (pay_cons (pey_hall dk.cl dk.hall) (pay_cons (Qa (Za 3)) pay_nil))))) (pwy_or1 (pty_dat (Zu (od_in (by exact hr.units)) (Za 3) (Za 5) (by with_unfolding_all rfl))))).pt (Qy (psy_raise x_NoPerson out_fn rfl (hr.mono (by decide)) (Zb (Za 4) Zf))) psy_nil)
   (Z0 (psy_put (Nat.lt_of_le_of_lt (Nat.add_le_add_left (by decide) _) hr.units) dk.cl dk.people (Za 2) (Za 3))
   (Qy (psy_ret (Qa Zr))))))))))
noncomputable def Z6:Dk->List D->KE D:=fnY 1 2
  (Qz (Q5 2 (kD (eCallX Yh (Zd (Zc 1) Zh))))
   (Qz (kSetFn 3 kANSWERS (eOp gIx (Zc 2) (eC (.int 0))))
   (kRet (fun sd r=>if Xg 3 "on_box" sd then(kCallL 3 "on_box" F_on_box (Zd (eSl (Zc 2) (Qi (eC (.int 1))) Qh) Zh)) sd r else(kCallL 3 "on_person" Qc (Zd (eSl (Zc 2) (Qi (eC (.int 1))) Qh) Zh)) sd r))))
theorem sc_Desk_say:FnScope ["self", "row", "parts", "answer"] ["self", "row"] (Zg s_Desk_say):=⟨rfl,rfl,rfl,by decide +kernel,rfl,by decide +kernel,by decide +kernel⟩
theorem ok_Desk_say (d:Mm K C "say" "Desk.say" s_Desk_say) (dk:Dsk K mg C) (c_parts_of:ClX P w K mg base 8 "parts_of" ["row"] Yh) (c_on_person:ClY P w K mg base C 4 "on_person" ["desk", "parts"] Qc) (c_on_box:ClY P w K mg base C 7 "on_box" ["desk", "parts"] F_on_box) (g_ANSWERS:DkG w K mg (fnIs K) "ANSWERS" kANSWERS):ClM P w K mg base C 9 "say" ["self", "row"] Z6 :=
 d.clM (fun _ _ _ _ _ _ us hl=>match us,hl with | [_,_],_=>rfl) fun _ _ F=>fn_y F sc_Desk_say rfl rfl fun cdv A outer s H E hr =>
  (Z0 (Yg 2 sc_Desk_say.nd (Qa (pd_callXC c_parts_of (hr.mono (by decide)) out_fn (Zb (Za 1) Zf))))
   (Z0 (psy_setFn 3 sc_Desk_say.nd g_ANSWERS (Zv (Za 2) Ze (fun _ _=>rfl)) (fun _ _=>rfl))
   (Qy (psy_ret (pey_or (Xg 3 "on_box") (pey_callL 3 c_on_box (hr.mono (by decide)) out_fn.passes (Zb (pd_slice (Za 2) (Qm Ze) Ql) Zf)) (pey_callL 3 c_on_person (hr.mono (by decide)) out_fn.passes (Zb (pd_slice (Za 2) (Qm Ze) Ql) Zf)))))))
noncomputable def Ya:Dk->List D->KE D:=fnY 1 1
  (Qz (kTry2 2 Z6 (Zd (Zc 1) Zh) "NoRow" "row" "NoPerson" "person")
   (kRet (kD (Zc 2))))
theorem sc_l_asked:FnScope ["_law_desk", "_law_row", "_law_found"] ["_law_desk", "_law_row"] (Zg s_l_asked):=⟨rfl,rfl,rfl,by decide +kernel,rfl,by decide +kernel,by decide +kernel⟩
theorem ok_l_asked (d:Dn K mg "_law_asked" s_l_asked) (dk:Dsk K mg C) (c_Desk_say:ClM P w K mg base C 9 "say" ["self", "row"] Z6) (x2:X2 K mg "NoRow" "NoPerson"):ClY P w K mg base C 10 "_law_asked" ["_law_desk", "_law_row"] Ya :=
 d.clY (fun _ _ _ _ _ _ us hl=>match us,hl with | [_,_],_=>rfl) fun _ _ F=>fn_y F sc_l_asked rfl rfl fun cdv A outer s H E hr =>
  (Z0 (psy_try2C 2 dk c_Desk_say (hr.mono (by decide)) x2 sc_l_asked.nd (Zb (Za 1) Zf))
   (Qy (psy_ret (Qa (Za 2)))))
noncomputable def F_law:List D->M S:=fnD 1 8 (sDesk 1 F_box
  (Qz (kIf (kTV (kOp gNe (Xb Z6 (Zd (eC (.str (Str.ofString "box 3 2"))) Zh)) (kD (eC (.str (Str.ofString "ok")))))) (kRet (kD (eC (.bl false)))) kNil)
   (Qz (kFor 2 (iSeq (eSl (Zc 0) Qh (Qi (eC (.int 40)))))
   (Qz (Q5 3 (kD (Zt Y5 (Zd (Zc 2) (Zd (eC (.int 8)) Zh)))))
   (Qz (Q5 4 (kD (Zt Q6 (Zd (Zt Yk (Zd (Zc 3) (Zd (eC (.int 3)) Zh))) Zh))))
   (Qz (Q5 5 (kD (Zt Q6 (Zd (Zt Yk (Zd (eSl (Zc 3) (Qi (eC (.int 3))) Qh) (Zd (eC (.int 2)) Zh))) Zh))))
   (Qz (kIf (kB (tB (eOp gGt (eOp Yd (eOp gIx (Zc 3) (eC (.int 6))) (eC (.int 3))) (eC (.int 0))))) (Q5 4 (kD (Zt F_l_bent (Zd (Zc 4) (Zd (eOp gIx (Zc 3) (eC (.int 7))) Zh))))) kNil)
   (Qz (Q5 6 (kD (eOp Zz (eOp Zz (eOp Zz (eC (.str (Str.ofString "person a "))) (Zc 4)) (eC (.str (Str.ofString " ")))) (Zc 5))))
   (Qz (kIf (kB (tB (eOp gEq (eOp Yd (eOp gIx (Zc 3) (eC (.int 6))) (eC (.int 2))) (eC (.int 1))))) (Q5 6 (kD (eOp Zz (eOp Zz (eOp Zz (eC (.str (Str.ofString "person a "))) (Zc 5)) (eC (.str (Str.ofString " ")))) (Zc 4)))) kNil)
   (Qz (Q5 7 (kD (Xa (Zc 6) (eC (.str (Str.ofString " "))))))
   (Qz (Q5 8 (kD (eC (.str (Str.ofString "ok")))))
   (Qz (kIf (kB (tO (tB (eOp gNe (eCB Ys (Zd (Zc 7) Zh)) (eC (.int 4)))) (tO (tN (tB (Zt Qu (Zd (eOp gIx (Zc 7) (eC (.int 2))) Zh)))) (tN (tB (Zt Qu (Zd (eOp gIx (Zc 7) (eC (.int 3))) Zh))))))) (Q5 8 (kD (eC (.str (Str.ofString "row"))))) (kIf (kB (tO (tN (tB (Zt Yp (Zd (eOp gIx (Zc 7) (eC (.int 2))) (Zd (eC (.int 3)) Zh))))) (tN (tB (Zt Yp (Zd (eOp gIx (Zc 7) (eC (.int 3))) (Zd (eC (.int 2)) Zh))))))) (Q5 8 (kD (eC (.str (Str.ofString "person"))))) kNil))
   (kIf (kTA (kB (tB (Zt Xs (Zd (Zc 4) Zh)))) (kTV (kOp gNe (Xb Ya (Zd (Zc 6) Zh)) (kD (Zc 8))))) (kRet (kD (eC (.bl false)))) kNil)))))))))))
   (kRet (kD (eC (.bl true)))))))
theorem sc_law:FnScope ["_law_script", "_law_desk", "_law_cell_here", "_law_xs", "_law_one", "_law_other", "_law_row", "_law_words", "_law_due"] ["_law_script"] (Zg s_law):=⟨rfl,rfl,rfl,by decide +kernel,rfl,by decide +kernel,by decide +kernel⟩
theorem ok_law {f:Addr}{fd:FuncData} (F:Fun K "law" "law" s_law f fd) (dk:Dsk K mg C) (c_Desk_say:ClM P w K mg base C 9 "say" ["self", "row"] Z6) (c_l_numbers:Cl P w K mg base 1 "_law_numbers" ["_law_cell_here", "_law_many"] Y5) (c_l_number:Cl P w K mg base 1 "_law_number" ["_law_number_here"] Q6) (c_l_drawn:Cl P w K mg base 3 "_law_drawn" ["_law_xs", "_law_size"] Yk) (c_l_bent:Cl P w K mg base 1 "_law_bent" ["_law_word", "_law_number_here"] F_l_bent) (c_l_is_number:Cl P w K mg base 2 "_law_is_number" ["_law_word"] Qu) (c_l_stands:Cl P w K mg base 1 "_law_stands" ["_law_word", "_law_size"] Yp) (c_l_asked:ClY P w K mg base C 10 "_law_asked" ["_law_desk", "_law_row"] Ya) (c_l_small:Cl P w K mg base 1 "_law_small" ["_law_word"] Xs) (c_Desk_init:ClD P w K mg base C 7 ["self"] F_box) (z_len:mg "len" = none):FnOk P w K mg base CX0 11 f fd ["_law_script"] (spN K F_law) :=
 Xd F sc_law rfl rfl fun cdv A outer s H E hr =>
  psd_deskC 1 dk c_Desk_init (hr.mono (by decide)) sc_law.nd (Z0 (psy_if (pty_cmp (od_ne hr.units) (pey_methC dk c_Desk_say (hr.mono (by decide)) pass10 (Zb Zr Zf)) (Qa Zr) (Zq _)) (Qy (psy_ret (Qa pd_bl))) psy_nil)
   (Z0 (psy_for 2 PassesOwn.never rfl (pid_seq (pd_slice (Za 0) Ql (Qm Ze))) sc_law.nd (Z0 (Yg 3 sc_law.nd (Qa (Zp c_l_numbers (hr.mono (by decide)) (Zb (Za 2) (Zb Ze Zf)))))
   (Z0 (Yg 4 sc_law.nd (Qa (Zp c_l_number (hr.mono (by decide)) (Zb (Zp c_l_drawn (hr.mono (by decide)) (Zb (Za 3) (Zb Ze Zf))) Zf))))
   (Z0 (Yg 5 sc_law.nd (Qa (Zp c_l_number (hr.mono (by decide)) (Zb (Zp c_l_drawn (hr.mono (by decide)) (Zb (pd_slice (Za 3) (Qm Ze) Ql) (Zb Ze Zf))) Zf))))
   (Z0 (psy_if (pty_dat (Zu od_gt (Zx Yx (Zv (Za 3) Ze (fun _ _=>rfl)) Ze) Ze (Zq _))) (Qy (Yg 4 sc_law.nd (Qa (Zp c_l_bent (hr.mono (by decide)) (Zb (Za 4) (Zb (Zv (Za 3) Ze (fun _ _=>rfl)) Zf)))))) psy_nil)
   (Z0 (Yg 6 sc_law.nd (Qa (Zx Qg (Zx Qg (Zx Qg Zr (Za 4)) Zr) (Za 5))))
   (Z0 (psy_if (pty_dat (Zu (Yi hr.units) (Zx Yx (Zv (Za 3) Ze (fun _ _=>rfl)) Ze) Ze (Zq _))) (Qy (Yg 6 sc_law.nd (Qa (Zx Qg (Zx Qg (Zx Qg Zr (Za 5)) Zr) (Za 4))))) psy_nil)
   (Z0 (Yg 7 sc_law.nd (Qa (pd_split (Za 6) Zr)))
   (Z0 (Yg 8 sc_law.nd (Qa Zr))
   (Z0 (psy_if (pty_dat ((Yy (Zu (od_ne hr.units) (Z5 cd_len (by rfl) z_len (by rfl) (Zb (Za 7) Zf)) Ze (Zq _)) (Yy (Yv (Yf (Zp c_l_is_number (hr.mono (by decide)) (Zb (Zv (Za 7) Ze (fun _ _=>rfl)) Zf)))) (Y8 (Yv (Yf (Zp c_l_is_number (hr.mono (by decide)) (Zb (Zv (Za 7) Ze (fun _ _=>rfl)) Zf)))))))).pt) (Qy (Yg 8 sc_law.nd (Qa Zr))) (Qy (psy_if (pty_dat ((Yy (Yv (Yf (Zp c_l_stands (hr.mono (by decide)) (Zb (Zv (Za 7) Ze (fun _ _=>rfl)) (Zb Ze Zf))))) (Y8 (Yv (Yf (Zp c_l_stands (hr.mono (by decide)) (Zb (Zv (Za 7) Ze (fun _ _=>rfl)) (Zb Ze Zf)))))))).pt) (Qy (Yg 8 sc_law.nd (Qa Zr))) psy_nil)))
   (Qy (psy_if (pwy_and (pty_dat (Yf (Zp c_l_small (hr.mono (by decide)) (Zb (Za 4) Zf)))) (pwy_and1 (pty_cmp (od_ne hr.units) (pey_call c_l_asked (hr.mono (by decide)) pass10 (Zb (Za 6) Zf)) (Qa (Za 8)) (Zq _)))).pt (Qy (psy_ret (Qa pd_bl))) psy_nil))))))))))))
   (Qy (psy_ret (Qa pd_bl)))))
end
theorem all_mk {l:PySem.W.OpenLaw}{w:World}{K:PySem.W.Frag}{h:Heap}{mg:Str->Option Value}{fa:Addr}(X:K.In h)(G:h.Ns mainGlobals mg) (hfa:mg "law" = some (.ref fa))
  (n_common_divisor:Dn K mg "common_divisor" Xo)
  (n_amount:Dn K mg "amount" s_amount)
  (n_below:Dn K mg "below" s_below)
  (n_is_whole:Dn K mg "is_whole" s_is_whole)
  (n_is_from_to:Dn K mg "is_from_to" s_is_from_to)
  (n_is_edge:Dn K mg "is_edge" s_is_edge)
  (n_outward_face:Dn K mg "outward_face" s_outward_face)
  (n_is_side:Dn K mg "is_side" s_is_side)
  (n_checked:Dn K mg "checked" s_checked)
  (n_is_between_lines:Dn K mg "is_between_lines" Y1)
  (n_may_stand:Dn K mg "may_stand" s_may_stand)
  (n_box:Dn K mg "box" s_box)
  (n_whole_in:Dn K mg "whole_in" s_whole_in)
  (n_is_name:Dn K mg "is_name" s_is_name)
  (n_show_number:Dn K mg "show_number" s_show_number)
  (n_any_word:Dn K mg "any_word" s_any_word)
  (n_whole_word:Dn K mg "whole_word" s_whole_word)
  (n_number_word:Dn K mg "number_word" s_number_word)
  (n_l_numbers:Dn K mg "_law_numbers" s_l_numbers)
  (n_l_common:Dn K mg "_law_common" s_l_common)
  (n_l_lowest:Dn K mg "_law_lowest" s_l_lowest)
  (n_l_number:Dn K mg "_law_number" s_l_number)
  (n_l_is_number:Dn K mg "_law_is_number" s_l_is_number)
  (n_l_bent:Dn K mg "_law_bent" s_l_bent)
  (n_l_drawn:Dn K mg "_law_drawn" s_l_drawn)
  (n_l_stands:Dn K mg "_law_stands" s_l_stands)
  (n_l_small:Dn K mg "_law_small" s_l_small)
  (n_form_of:Dn K mg "form_of" s_form_of)
  (n_parts_of:Dn K mg "parts_of" s_parts_of)
  (n_number_of:Dn K mg "number_of" s_number_of)
  (n_keep_hall:Dn K mg "keep_hall" s_keep_hall)
  (n_on_box:Dn K mg "on_box" s_on_box)
  (n_on_person:Dn K mg "on_person" Y4)
  (n_l_asked:Dn K mg "_law_asked" s_l_asked)
  (n_law:Dn K mg "law" s_law)
  {C:Addr} (dk:Dsk K mg C) (e_Desk_init:Mm K C "__init__" "Desk.__init__" s_Desk_init) (e_Desk_say:Mm K C "say" "Desk.say" s_Desk_say)
  (x_NoPerson:Xm K mg "NoPerson" "number" "NoPerson.__init__" sI_NoPerson) (q_NoRow:Xq K mg "NoRow") (q_NoName:Xq K mg "NoName") (x2:X2 K mg "NoRow" "NoPerson")
  (z_abs:PySem.W.nsIn K mainGlobals "abs" = some none)
  (z_isinstance:PySem.W.nsIn K mainGlobals "isinstance" = some none)
  (z_int:PySem.W.nsIn K mainGlobals "int" = some none)
  (z_bool:PySem.W.nsIn K mainGlobals "bool" = some none)
  (z_enumerate:PySem.W.nsIn K mainGlobals "enumerate" = some none)
  (z_sorted:PySem.W.nsIn K mainGlobals "sorted" = some none)
  (z_tuple:PySem.W.nsIn K mainGlobals "tuple" = some none)
  (z_range:PySem.W.nsIn K mainGlobals "range" = some none)
  (z_len:PySem.W.nsIn K mainGlobals "len" = some none)
  (z_all:PySem.W.nsIn K mainGlobals "all" = some none)
  (z_str:PySem.W.nsIn K mainGlobals "str" = some none)
  (z_zip:PySem.W.nsIn K mainGlobals "zip" = some none)
  (z_list:PySem.W.nsIn K mainGlobals "list" = some none)
  {tk_GREATEST_SIZE:Tok} (yg_GREATEST_SIZE:PySem.W.nsIn K mainGlobals "GREATEST_SIZE" = some (some (.int 8 tk_GREATEST_SIZE)))
  {tk_MOST_LETTERS:Tok} (yg_MOST_LETTERS:PySem.W.nsIn K mainGlobals "MOST_LETTERS" = some (some (.int 8 tk_MOST_LETTERS)))
  {tk_MOST_FIGURES:Tok} (yg_MOST_FIGURES:PySem.W.nsIn K mainGlobals "MOST_FIGURES" = some (some (.int 9 tk_MOST_FIGURES)))
  {at_FACES:Addr} (yg_FACES:PySem.W.nsIn K mainGlobals "FACES" = some (some (.ref at_FACES))) (yb_FACES:tupB K at_FACES [V.str (Str.ofString "m"),V.str (Str.ofString "p")]=true)
  {tk_FIGURES:Tok} (ys_FIGURES:PySem.W.nsIn K mainGlobals "FIGURES" = some (some (.str (Str.ofString "0123456789") tk_FIGURES)))
  {tk_LETTERS:Tok} (ys_LETTERS:PySem.W.nsIn K mainGlobals "LETTERS" = some (some (.str (Str.ofString "abcdefghijklmnopqrstuvwxyz") tk_LETTERS)))
  (g_READERS:DkG w K mg (fnIs K) "READERS" kREADERS) (g_ANSWERS:DkG w K mg (fnIs K) "ANSWERS" kANSWERS) (g_FORMS:DkG w K mg (txIs K) "FORMS" kFORMS)
  : ∃fd:FuncData,(∀(s:Shared) (v:Value),BindsTo s fd ⟨[v],[]⟩ [("_law_script", v)])/\∀base:Heap,K.In base->base.Ns mainGlobals mg->FnOk l.prog w K mg base CX0 11 fa fd ["_law_script"] (spN K F_law):=by
 obtain⟨_,fdL,FL,mL⟩:=n_law.dm.ex
 obtain⟨oc,od,kV,dc,pm,an,cd,ct,sl,rfl,lk,hcd⟩:=FL.ex
 cases hfa.symm.trans mL
 refine⟨PySem.W.fnOf "law" "law" (Q8 s_law) (Z7 s_law) (Zg s_law) .none kV dc pm an cd ct,fun s v=>.of_eq rfl,fun base _ _=>?_⟩
 have z_abs:=PySem.W.mg_none_of X G z_abs
 have z_isinstance:=PySem.W.mg_none_of X G z_isinstance
 have z_int:=PySem.W.mg_none_of X G z_int
 have z_bool:=PySem.W.mg_none_of X G z_bool
 have z_enumerate:=PySem.W.mg_none_of X G z_enumerate
 have z_sorted:=PySem.W.mg_none_of X G z_sorted
 have z_tuple:=PySem.W.mg_none_of X G z_tuple
 have z_range:=PySem.W.mg_none_of X G z_range
 have z_len:=PySem.W.mg_none_of X G z_len
 have z_all:=PySem.W.mg_none_of X G z_all
 have z_str:=PySem.W.mg_none_of X G z_str
 have z_zip:=PySem.W.mg_none_of X G z_zip
 have z_list:=PySem.W.mg_none_of X G z_list
 have x_NoPerson:=x_NoPerson.xr (P:=l.prog) (w:=w) (base:=base) scI_NoPerson rfl (fun _ _ _ _ _ _ us hl=>match us,hl with | [_,_],_=>rfl) (.inl rfl) (.inl rfl)
 have c_common_divisor:=ok_common_divisor (P:=l.prog) (w:=w) (base:=base)  n_common_divisor.dm z_abs
 have c_amount:=ok_amount (P:=l.prog) (w:=w) (base:=base)  n_amount.dm c_common_divisor
 have c_below:=ok_below (P:=l.prog) (w:=w) (base:=base)  n_below.dm
 have c_is_whole:=ok_is_whole (P:=l.prog) (w:=w) (base:=base)  n_is_whole.dm z_isinstance z_int z_bool
 have c_is_from_to:=ok_is_from_to (P:=l.prog) (w:=w) (base:=base)  n_is_from_to.dm c_is_whole
 have c_is_edge:=ok_is_edge (P:=l.prog) (w:=w) (base:=base)  n_is_edge.dm c_is_from_to
 have c_outward_face:=ok_outward_face (P:=l.prog) (w:=w) (base:=base)  n_outward_face.dm
 have c_is_side:=ok_is_side (P:=l.prog) (w:=w) (base:=base)  n_is_side.dm c_is_edge c_outward_face (PySem.W.mg_of X G yg_FACES) yb_FACES
 have c_checked:=ok_checked (P:=l.prog) (w:=w) (base:=base)  n_checked.dm c_is_from_to c_is_side z_enumerate z_sorted z_tuple (PySem.W.mg_of X G yg_GREATEST_SIZE)
 have c_is_between_lines:=ok_is_between_lines (P:=l.prog) (w:=w) (base:=base)  n_is_between_lines.dm c_below
 have c_may_stand:=ok_may_stand (P:=l.prog) (w:=w) (base:=base)  n_may_stand.dm c_is_between_lines
 have c_box:=ok_box (P:=l.prog) (w:=w) (base:=base)  n_box.dm c_checked z_range z_tuple
 have c_whole_in:=ok_whole_in (P:=l.prog) (w:=w) (base:=base)  n_whole_in.dm z_len z_all z_int (PySem.W.mg_of X G ys_FIGURES)
 have c_is_name:=ok_is_name (P:=l.prog) (w:=w) (base:=base)  n_is_name.dm z_len z_all (PySem.W.mg_of X G yg_MOST_LETTERS) (PySem.W.mg_of X G ys_LETTERS)
 have c_show_number:=ok_show_number (P:=l.prog) (w:=w) (base:=base)  n_show_number.dm
 have c_any_word:=ok_any_word (P:=l.prog) (w:=w) (base:=base)  n_any_word.dm
 have c_whole_word:=ok_whole_word (P:=l.prog) (w:=w) (base:=base)  n_whole_word.dm c_whole_in (PySem.W.mg_of X G yg_MOST_FIGURES)
 have c_number_word:=ok_number_word (P:=l.prog) (w:=w) (base:=base)  n_number_word.dm c_whole_word c_amount c_show_number
 have c_l_numbers:=ok_l_numbers (P:=l.prog) (w:=w) (base:=base)  n_l_numbers.dm z_abs z_range z_int
 have c_l_common:=ok_l_common (P:=l.prog) (w:=w) (base:=base)  n_l_common.dm z_abs
 have c_l_lowest:=ok_l_lowest (P:=l.prog) (w:=w) (base:=base)  n_l_lowest.dm c_l_common
 have c_l_number:=ok_l_number (P:=l.prog) (w:=w) (base:=base)  n_l_number.dm z_str
 have c_l_is_number:=ok_l_is_number (P:=l.prog) (w:=w) (base:=base)  n_l_is_number.dm c_l_common z_len z_all z_int
 have c_l_bent:=ok_l_bent (P:=l.prog) (w:=w) (base:=base)  n_l_bent.dm z_len
 have c_l_drawn:=ok_l_drawn (P:=l.prog) (w:=w) (base:=base)  n_l_drawn.dm c_l_lowest
 have c_l_stands:=ok_l_stands (P:=l.prog) (w:=w) (base:=base)  n_l_stands.dm z_int
 have c_l_small:=ok_l_small (P:=l.prog) (w:=w) (base:=base)  n_l_small.dm z_len
 have c_form_of:=ok_form_of (P:=l.prog) (w:=w) (base:=base)  n_form_of.dm z_len q_NoRow g_FORMS
 have c_parts_of:=ok_parts_of (P:=l.prog) (w:=w) (base:=base)  n_parts_of.dm c_form_of (n_any_word.own c_any_word) (n_whole_word.own c_whole_word) (n_number_word.own c_number_word) z_isinstance z_str z_len z_zip q_NoRow g_READERS
 have c_Desk_init:=ok_Desk_init (P:=l.prog) (w:=w) (base:=base)  e_Desk_init dk c_box
 have c_number_of:=ok_number_of (P:=l.prog) (w:=w) (base:=base)  n_number_of dk z_list q_NoName
 have c_keep_hall:=ok_keep_hall (P:=l.prog) (w:=w) (base:=base)  n_keep_hall dk
 have c_on_box:=ok_on_box (P:=l.prog) (w:=w) (base:=base)  n_on_box dk c_keep_hall c_box
 have c_on_person:=ok_on_person (P:=l.prog) (w:=w) (base:=base)  n_on_person dk c_is_name c_number_of c_may_stand z_len x_NoPerson q_NoName
 have c_Desk_say:=ok_Desk_say (P:=l.prog) (w:=w) (base:=base)  e_Desk_say dk c_parts_of c_on_person c_on_box g_ANSWERS
 have c_l_asked:=ok_l_asked (P:=l.prog) (w:=w) (base:=base)  n_l_asked dk c_Desk_say x2
 exact ok_law FL dk c_Desk_say c_l_numbers c_l_number c_l_drawn c_l_bent c_l_is_number c_l_stands c_l_asked c_l_small c_Desk_init z_len
theorem reps_ints {K:PySem.W.Frag}{H:Hp}:∀ns:List Int,Reps K H (ns.map D.int) (ns.map V.int)
 |[]=>Reps.nil
 |_::ns=>Reps.cons (rep_int.mpr rfl) (reps_ints ns)
theorem walk {l:PySem.W.OpenLaw}{q:Program}{loose:List Str}{XP:(Str->Option Value)->Heap->Prop}{YP:World->Heap->Prop}{d:DefRec}{K:Params->PySem.W.Frag}(hn:l.most=some 63)(hdf:d.params.defaults=[])(hT:∀ns:List Int,ns.length<=63->F_law [.lst (ns.map D.int)]=.ok (.im (.bl true)))(hY:∀(w:World) (h:Heap),YP w h->(K w.params).In h)
  (F:∀(w:World) (mg:Str->Option Value) (fa:Addr) (h:Heap),(K w.params).In h->h.Ns mainGlobals mg->mg d.name=some (.ref fa) ->
   ∃fd:FuncData,(∀(s:Shared) (u:Value),BindsTo s fd ⟨[u],[]⟩ [("_law_script", u)])/\∀base:Heap,(K w.params).In base->base.Ns mainGlobals mg->FnOk l.prog w (K w.params) mg base CX0 11 fa fd ["_law_script"] (spN (K w.params) F_law)) :
  PySem.W.WalkO q loose XP YP l.row.toRowW d [] (fun f vs=>PySem.call f vs) :=
 L2.walk_of (n:=63) (k:=11) (x := "_law_script") (CX:=fun w=>CX0) (sp:=fun w=>spN (K w.params) F_law) hn (by decide) hdf ⟨rfl,by decide,by decide⟩ hY F
  (fun w H a ns hl _ hS=>⟨H,[.lst (ns.map D.int)],.im (.bl true),Same.refl _,Reps.cons (rep_lst.mpr ⟨a,ns.map V.int,rfl,hS,reps_ints ns⟩) Reps.nil,hT ns hl,fun v Hf' H' _ r=>(rep_bl (K:=K w.params) (H:=Hf')).mp r⟩) fun _ _ _ _ _ z=>z
end Law
set_option maxRecDepth 100000
set_option maxHeartbeats 4000000
set_option linter.all false
namespace Law
open PySem L2 DL
theorem ten_pow {k:Nat}(h:k<=900):10 ^ k<2 ^ 4000:=by
 have h1:(10:Nat) ^ k<=16 ^ k:=Nat.pow_le_pow_left (by decide) k
 have h2:(16:Nat) ^ k=2 ^ (4*k):=by rw[show(16:Nat)=2 ^ 4 from rfl,<-Nat.pow_mul]
 have h3:(2:Nat) ^ (4*k)<2 ^ 4000:=Nat.pow_lt_pow_right (by decide) (by lia)
 lia
theorem sm_of {x:Int}{k:Nat}(h:x.natAbs<=10 ^ k)(hk:k<=900):sm x=true:=sm_iff.mpr (Nat.lt_of_le_of_lt h (ten_pow hk))
theorem mul_le' {x y:Int}{j k:Nat}(hx:x.natAbs<=10 ^ j)(hy:y.natAbs<=10 ^ k):(x*y).natAbs<=10 ^ (j+k):=by
 rw[Int.natAbs_mul,Nat.pow_add]
 exact Nat.mul_le_mul hx hy
theorem add_le' {x y:Int}{k:Nat}(hx:x.natAbs<=10 ^ k)(hy:y.natAbs<=10 ^ k):(x+y).natAbs<=10 ^ (k+1):=by
 have:=Int.natAbs_add_le x y
 rw[Nat.pow_succ]
 lia
theorem sub_le' {x y:Int}{k:Nat}(hx:x.natAbs<=10 ^ k)(hy:y.natAbs<=10 ^ k):(x - y).natAbs<=10 ^ (k+1):=by
 have:=Int.natAbs_sub_le x y
 rw[Nat.pow_succ]
 lia
theorem gTimes_ok {i j:Int}(hi:sm i=true)(hj:sm j=true):Yt (.int i) (.int j)=.ok (.int (i*j)):=by
 show(if(sm i&&sm j)=true then _ else _)=_
 rw[hi,hj];rfl
theorem gFdiv_ok {i j:Int}(hj:0<j)(hs:sm j=true):gFdiv (.int i) (.int j)=.ok (.int (i / j)):=by
 show(if(j != 0&&sm j)=true then M.ok (D.int (i.fdiv j)) else _)=_
 have:(j != 0)=true:=by simp;lia
 rw[this,hs,Int.fdiv_eq_ediv_of_nonneg i (by lia)];rfl
theorem gMod_ok {i j:Int}(hj:0<j):Yd (.int i) (.int j)=.ok (.int (i % j)):=by
 show(if(j != 0)=true then M.ok (D.int (i.fmod j)) else _)=_
 have:(j != 0)=true:=by simp;lia
 rw[this,Int.fmod_eq_emod_of_nonneg i (by lia)];rfl
theorem mapD_ok {gt:D->DSt->M DSt}{fe:DSt->M D}{sd0:DSt}(φ:D->D):∀{ds:List D},(∀d∈ds,∃sd1,gt d sd0=.ok sd1/\fe sd1=.ok (φ d))->mapD gt fe sd0 ds=.ok (ds.map φ)
 |[],_=>rfl
 |d::ds,h=>by
  obtain⟨sd1,h1,h2⟩:=h d List.mem_cons_self
  simp[mapD,h1,h2,mapD_ok φ fun d hd=>h d (List.mem_cons_of_mem _ hd)]
theorem range0 (n:Nat):rangeD 0 n=(List.range n).map fun(k:Nat)=>D.int (k:Int):=by
 unfold rangeD;simp
theorem iR1 {fs:DSt->M (List D)}{sd:DSt}{n:Nat}(h:fs sd=.ok [.int (n:Int)])(hn:n<=1000):iRange1 fs sd=.ok ((List.range n).map fun(k:Nat)=>D.int (k:Int)):=by
 simp[iRange1,h,range0]
 lia
theorem few_of {ds:List D}(h:ds.length<=1000000):few ds=true:=decide_eq_true h
theorem fn1 (m:Nat)(f:DSt->M O)(a0:D):fnD 1 m f [a0]=fin' (f ([some (S.im a0)]++List.replicate m none)):=rfl
theorem fn2 (m:Nat)(f:DSt->M O)(a0 a1:D):fnD 2 m f [a0,a1]=fin' (f ([some (S.im a0),some (S.im a1)]++List.replicate m none)):=rfl
theorem fn3 (m:Nat)(f:DSt->M O)(a0 a1 a2:D):fnD 3 m f [a0,a1,a2]=fin' (f ([some (S.im a0),some (S.im a1),some (S.im a2)]++List.replicate m none)):=rfl
theorem fn4 (m:Nat)(f:DSt->M O)(a0 a1 a2 a3:D):fnD 4 m f [a0,a1,a2,a3]=fin' (f ([some (S.im a0),some (S.im a1),some (S.im a2),some (S.im a3)]++List.replicate m none)):=rfl
theorem fn5 (m:Nat)(f:DSt->M O)(a0 a1 a2 a3 a4:D):fnD 5 m f [a0,a1,a2,a3,a4]=fin' (f ([some (S.im a0),some (S.im a1),some (S.im a2),some (S.im a3),some (S.im a4)]++List.replicate m none)):=rfl
theorem sSeq_nx {f g:DSt->M O}{sd sd':DSt}(h:f sd=.ok (.nx sd')):Zw f g sd=g sd':=by unfold Zw;rw[h];rfl
theorem sSeq_rt {f g:DSt->M O}{sd:DSt}{s:S}(h:f sd=.ok (.rt s)):Zw f g sd=.ok (.rt s):=by unfold Zw;rw[h];rfl
theorem sFor_ok {fi:DSt->M (List D)}{g:D->DSt->M DSt}{f:DSt->M O}{sd:DSt}{ds:List D}(h:fi sd=.ok ds):sFor fi g f sd=loopD g f ds sd:=by unfold sFor;rw[h];rfl
theorem go {f g:DSt->M O}{sd sd':DSt}{r:M O}(h:f sd=.ok (.nx sd'))(k:g sd'=r):Zw f g sd=r:=(sSeq_nx h).trans k
theorem Q0 {r:M O}{s:S}(h:r=.ok (.rt s)):fin' r=.ok s:=by rw[h];rfl
theorem own_nil (i:Nat)(sd:DSt):sOwn i (fLst Zh) sd=.ok (.nx (sd.set i (some (.ow [])))):=by
 unfold sOwn fLst Zh
 rw[M.bind_ok,few_of (Nat.zero_le _),if_pos rfl,M.bind_ok]
theorem p4000 {n:Nat}(h:n<=10 ^ 30):n<2 ^ 4000:=by
 have h1:(10:Nat) ^ 30<=16 ^ 30:=Nat.pow_le_pow_left (by decide) 30
 have h2:(16:Nat) ^ 30=2 ^ 120:=by rw[show(16:Nat)=2 ^ 4 from rfl,<-Nat.pow_mul]
 have h3:(2:Nat) ^ 120<2 ^ 4000:=Nat.pow_lt_pow_right (by decide) (by decide)
 lia
theorem sm30 {x:Int}(h:-1000000000000000000000000000000<=x)(h':x<=1000000000000000000000000000000):sm x=true:=sm_iff.mpr (p4000 (by have:(10:Nat) ^ 30=1000000000000000000000000000000:=rfl;lia))
theorem gT {i j:Int}(hi:sm i=true)(hj:sm j=true):Yt (.int i) (.int j)=.ok (.int (i*j)):=by
 show(if(sm i&&sm j)=true then _ else _)=_
 rw[hi,hj];rfl
theorem gFd {i j:Int}(hj:0<j)(hs:sm j=true):gFdiv (.int i) (.int j)=.ok (.int (i / j)):=by
 show(if(j != 0&&sm j)=true then M.ok (D.int (i.fdiv j)) else _)=_
 have:(j != 0)=true:=by simp;lia
 rw[this,hs,Int.fdiv_eq_ediv_of_nonneg i (by lia)];rfl
theorem gM {i j:Int}(hj:0<j):Yd (.int i) (.int j)=.ok (.int (i % j)):=by
 show(if(j != 0)=true then M.ok (D.int (i.fmod j)) else _)=_
 have:(j != 0)=true:=by simp;lia
 rw[this,Int.fmod_eq_emod_of_nonneg i (by lia)];rfl
theorem mul_bd {a b:Int}{A B:Int}(ha:0<=a)(ha':a<=A)(hb:0<=b)(hb':b<=B):0<=a*b/\a*b<=A*B:=⟨Int.mul_nonneg ha hb,Int.mul_le_mul ha' hb' hb (by lia)⟩
theorem Q7 {i:Nat}{f:DSt->M D}{sd:DSt}{d:D}(h:f sd=.ok d):Z9 i f sd=.ok (.nx (sd.set i (some (.im d)))):=by unfold Z9;rw[h];rfl
theorem Z4 {F:List D->M S}{fs:DSt->M (List D)}{sd:DSt}{ds:List D}{s:S}{d:D}(h1:fs sd=.ok ds)(h2:F ds=.ok s)(h3:s.toD=.ok d):Zt F fs sd=.ok d:=by
 unfold Zt;rw[h1,M.bind_ok,h2];exact h3
theorem a1 {fa:DSt->M D}{sd:DSt}{d:D}(h:fa sd=.ok d):Zd fa Zh sd=.ok [d]:=by unfold Zd Zh;rw[h];rfl
theorem aC {fa:DSt->M D}{fr:DSt->M (List D)}{sd:DSt}{d:D}{ds:List D}(h:fa sd=.ok d)(h2:fr sd=.ok ds):Zd fa fr sd=.ok (d::ds):=by unfold Zd;rw[h,M.bind_ok,h2];rfl
theorem Qf {f:DSt->M D}{sd:DSt}{d:D}(h:f sd=.ok d):Qq f sd=.ok (.rt (.im d)):=by unfold Qq;rw[h];rfl
theorem cb_ok {g:List D->M D}{fs:DSt->M (List D)}{sd:DSt}{ds:List D}{r:M D}(h1:fs sd=.ok ds)(h2:g ds=r):eCB g fs sd=r:=by unfold eCB;rw[h1];exact h2
theorem loop_ex {g:D->DSt->M DSt}{f:DSt->M O}{d:D}{r:List D}{sd sd1:DSt}{x:XV}(h1:g d sd=.ok sd1)(h2:f sd1=.ex x):loopD g f (d::r) sd=.ex x:=by
 simp only[loopD,h1,h2,M.bind_ex]
theorem loop_nx {g:D->DSt->M DSt}{f:DSt->M O}{d:D}{r:List D}{sd sd1 sd2:DSt}(h1:g d sd=.ok sd1)(h2:f sd1=.ok (.nx sd2)):loopD g f (d::r) sd=loopD g f r sd2:=by
 simp only[loopD,h1,h2,M.bind_ok]
theorem sSeq_ex {f g:DSt->M O}{sd:DSt}{x:XV}(h:f sd=.ex x):Zw f g sd=.ex x:=by unfold Zw;rw[h];rfl
theorem fin_ex {r:M O}{x:XV}(h:r=.ex x):fin' r=.ex x:=by rw[h];rfl
theorem atI0 {α:Type}(x:α)(r:List α):atI (x::r) 0=some x:=by
 have:=atI_nat (xs:=x::r) (j:=0) (v:=x) rfl
 exact this
theorem atI1 {α:Type}(x y:α)(r:List α):atI (x::y::r) 1=some y:=by
 have:=atI_nat (xs:=x::y::r) (j:=1) (v:=y) rfl
 exact this
theorem smI {x:Int}(h:-1000000000<=x)(h':x<=1000000000):sm x=true:=sm30 (by lia) (by lia)
theorem sm1:sm 1=true:=sm30 (by decide) (by decide)
theorem own_ok {i:Nat}{f:DSt->M (List D)}{sd:DSt}{ds:List D}(h:f sd=.ok ds):sOwn i f sd=.ok (.nx (sd.set i (some (.ow ds)))):=by unfold sOwn;rw[h];rfl
theorem lput_ok {i:Nat}{fk fv:DSt->M D}{sd:DSt}{ds:List D}{v:D}{k:Nat}(h:sd[i]?=some (some (.ow ds)))(hv:fv sd=.ok v)(hk:fk sd=.ok (.int (k:Int)))(hj:k<ds.length):sLPut i fk fv sd=.ok (.nx (sd.set i (some (.ow (ds.set k v))))):=by
 unfold sLPut
 rw[h]
 dsimp only
 rw[hv,M.bind_ok,hk,M.bind_ok]
 have e:ixN ds.length (k:Int)=some k:=by
  unfold ixN
  rw[if_pos (by lia),if_pos (by lia)];simp
 dsimp only
 rw[e]
theorem Ym {c:DSt->M Bool}{f:DSt->M O}{sd:DSt}(h:c sd=.ok false):sIf c f Yz sd=.ok (.nx sd):=by unfold sIf;rw[h];rfl
theorem tO_ff {f g:DSt->M Bool}{sd:DSt}(h1:f sd=.ok false)(h2:g sd=.ok false):DL.tO f g sd=.ok false:=by unfold DL.tO;rw[h1];exact h2
theorem tN_t {f:DSt->M Bool}{sd:DSt}(h:f sd=.ok true):DL.tN f sd=.ok false:=by unfold DL.tN;rw[h];rfl
theorem Yu {f:DSt->M D}{sd:DSt}{b:Bool}(h:f sd=.ok (.bl b)):DL.tB f sd=.ok b:=by unfold DL.tB;rw[h];rfl
theorem Zm {g:D->D->M D}{fa fb:DSt->M D}{sd:DSt}{x y:D}{r:M D}(h1:fa sd=.ok x)(h2:fb sd=.ok y)(h3:g x y=r):eOp g fa fb sd=r:=by unfold eOp;rw[h1,M.bind_ok,h2,M.bind_ok,h3]
theorem and_ok {f g:DSt->M D}{sd:DSt}{r:M D}(h1:f sd=.ok (.bl true))(h2:g sd=r):eAnd f g sd=r:=by unfold eAnd;rw[h1,M.bind_ok];exact h2
theorem Yw {c:DSt->M Bool}{f g:DSt->M O}{sd:DSt}{r:M O}(h:c sd=.ok true)(k:f sd=r):sIf c f g sd=r:=by unfold sIf;rw[h];exact k
theorem if_else {c:DSt->M Bool}{f g:DSt->M O}{sd:DSt}{r:M O}(h:c sd=.ok false)(k:g sd=r):sIf c f g sd=r:=by unfold sIf;rw[h];exact k
theorem tO_t {f g:DSt->M Bool}{sd:DSt}(h1:f sd=.ok true):DL.tO f g sd=.ok true:=by unfold DL.tO;rw[h1];rfl
theorem tO_f {f g:DSt->M Bool}{sd:DSt}{r:M Bool}(h1:f sd=.ok false)(h2:g sd=r):DL.tO f g sd=r:=by unfold DL.tO;rw[h1];exact h2
theorem tN_b {f:DSt->M Bool}{sd:DSt}{b:Bool}(h:f sd=.ok b):DL.tN f sd=.ok (!b):=by unfold DL.tN;rw[h];rfl
theorem tA_f {f g:DSt->M Bool}{sd:DSt}(h1:f sd=.ok false):DL.tA f g sd=.ok false:=by unfold DL.tA;rw[h1];rfl
theorem tA_t {f g:DSt->M Bool}{sd:DSt}{r:M Bool}(h1:f sd=.ok true)(h2:g sd=r):DL.tA f g sd=r:=by unfold DL.tA;rw[h1];exact h2
theorem and_f {f g:DSt->M D}{sd:DSt}(h1:f sd=.ok (.bl false)):eAnd f g sd=.ok (.bl false):=by unfold eAnd;rw[h1];rfl
theorem or_t {f g:DSt->M D}{sd:DSt}(h1:f sd=.ok (.bl true)):eOr f g sd=.ok (.bl true):=by unfold eOr;rw[h1];rfl
theorem or_f {f g:DSt->M D}{sd:DSt}{r:M D}(h1:f sd=.ok (.bl false))(h2:g sd=r):eOr f g sd=r:=by unfold eOr;rw[h1];exact h2
theorem eif_t {c:DSt->M Bool}{f g:DSt->M D}{sd:DSt}{r:M D}(h:c sd=.ok true)(k:f sd=r):eIf c f g sd=r:=by unfold eIf;rw[h];exact k
theorem eif_f {c:DSt->M Bool}{f g:DSt->M D}{sd:DSt}{r:M D}(h:c sd=.ok false)(k:g sd=r):eIf c f g sd=r:=by unfold eIf;rw[h];exact k
theorem callX_ex {F:List D->M S}{fs:DSt->M (List D)}{sd:DSt}{ds:List D}{x:XV}(h1:fs sd=.ok ds)(h2:F ds=.ex x):eCallX F fs sd=.ex x:=by unfold eCallX;rw[h1,M.bind_ok,h2];rfl
theorem callX_ok {F:List D->M S}{fs:DSt->M (List D)}{sd:DSt}{ds:List D}{s:S}{d:D}(h1:fs sd=.ok ds)(h2:F ds=.ok s)(h3:s.toD=.ok d):eCallX F fs sd=.ok d:=by unfold eCallX;rw[h1,M.bind_ok,h2];exact h3
theorem atI2 {α:Type}(x y z:α)(r:List α):atI (x::y::z::r) 2=some z:=atI_nat (xs:=x::y::z::r) (j:=2) (v:=z) rfl
theorem atI3 {α:Type}(x y z u:α)(r:List α):atI (x::y::z::u::r) 3=some u:=atI_nat (xs:=x::y::z::u::r) (j:=3) (v:=u) rfl
theorem atI4 {α:Type}(x y z u v:α)(r:List α):atI (x::y::z::u::v::r) 4=some v:=atI_nat (xs:=x::y::z::u::v::r) (j:=4) (v:=v) rfl
end Law
set_option maxRecDepth 100000
set_option maxHeartbeats 4000000
set_option linter.all false
namespace Law
open PySem L2 DL PySem.Builtin PySem.Builtin.Str PySem.StrLaws
def lS (z:Str):List Nat:=z.cps.toList
def mk (l:List Nat):Str:=⟨l.toArray⟩
theorem mk_l (z:Str):mk (lS z)=z:=by cases z;simp[mk,lS]
theorem l_mk (l:List Nat):lS (mk l)=l:=by simp[mk,lS]
theorem Qn (z:Str):z.length=(lS z).length:=by simp[lS,Str.length]
theorem mk_len (l:List Nat):(mk l).length=l.length:=by simp[mk,Str.length]
theorem mk_inj {a b:List Nat}(h:mk a=mk b):a=b:=by rw[<-l_mk a,h,l_mk]
theorem l_app (x y:Str):lS (x++y)=lS x++lS y:=by
 show(x.cps++y.cps).toList=_
 simp[lS]
theorem mk_app (a b:List Nat):mk a++mk b=mk (a++b):=by rw[<-mk_l (mk a++mk b),l_app,l_mk,l_mk]
def posF (c:Nat):Nat->List Nat->List Nat
 |_,[]=>[]
 |k,a::r=>if a=c then k::posF c (k+1) r else posF c (k+1) r
theorem occ_run (x:Str)(c lim:Nat):∀(n i free:Nat) (f:Array Nat),free<=i->i+n=x.length+1->f.size<=lim ->
  (forIn (List.range' i n) (f,free) (occBody x ⟨#[c]⟩ x.length lim)).run.fst.toList=f.toList++(posF c i ((lS x).drop i)).take (lim - f.size)
 |0,i,free,f,h1,h2,h3=>by
  have:(lS x).drop i=[]:=List.drop_eq_nil_of_le (by rw[<-Qn];lia)
  rw[this]
  simp[posF]
 |n+1,i,free,f,h1,h2,h3=>by
  rw[List.range'_succ,List.forIn_cons]
  unfold occBody
  have key:=subAt_one x c i
  by_cases hc:x.cps.toList[i]?=some c
  ·obtain⟨k1,k2⟩:=key.mpr hc
   have hd:(lS x).drop i=c::(lS x).drop (i+1):=by
    obtain⟨hl,he⟩:=List.getElem?_eq_some_iff.mp hc
    rw[<-he]
    exact List.drop_eq_getElem_cons hl
   by_cases hs:f.size<lim
   ·rw[if_pos ⟨⟨⟨hs,h1⟩,k1⟩,k2⟩]
    have ih:=occ_run x c lim n (i+1) (i+1) (f.push i) (Nat.le_refl _) (by lia) (by rw[Array.size_push];lia)
    refine ih.trans ?_
    rw[hd,posF,if_pos rfl,Array.toList_push,Array.size_push]
    obtain⟨m,hm⟩:∃m,lim - f.size=m+1:=⟨lim - f.size - 1,by lia⟩
    have:lim - (f.size+1)=m:=by lia
    rw[hm,this,List.take_succ_cons]
    simp
   ·rw[if_neg (fun z=>hs z.1.1.1)]
    have ih:=occ_run x c lim n (i+1) free f (by lia) (by lia) h3
    refine ih.trans ?_
    have:lim - f.size=0:=by lia
    rw[this];simp
  ·rw[if_neg (fun z=>hc (key.mp ⟨z.1.2,z.2⟩))]
   have ih:=occ_run x c lim n (i+1) free f (by lia) (by lia) h3
   refine ih.trans ?_
   congr 2
   by_cases hl:i<(lS x).length
   ·rw[List.drop_eq_getElem_cons hl,posF,if_neg (fun z=>hc (by rw[<-z];exact List.getElem?_eq_getElem hl))]
   ·rw[List.drop_eq_nil_of_le (by lia),List.drop_eq_nil_of_le (by lia)]
    rfl
theorem occ_pos (x:Str)(c lim:Nat):occurrences x ⟨#[c]⟩ 0 x.length lim=(posF c 0 (lS x)).take lim:=by
 rw[occ_eq]
 have:=occ_run x c lim (x.length+1) 0 0 #[] (Nat.le_refl _) (by lia) (Nat.zero_le _)
 simpa using this
theorem posF_len (c:Nat):∀(k:Nat) (l:List Nat),(posF c k l).length<=l.length
 |_,[]=>Nat.le_refl _
 |k,a::r=>by
  unfold posF
  have:=posF_len c (k+1) r
  split<;>simp<;>lia
def hd1 (p:List Nat):List (List Nat)->List (List Nat)
 |[]=>[p]
 |h::t=>(p++h)::t
def Zl (c:Nat):List Nat->List (List Nat)
 |[]=>[[]]
 |a::r=>if a=c then []::Zl c r else hd1 [a] (Zl c r)
theorem Yb (c:Nat)(l:List Nat):Zl c l≠[]:=by
 cases l with
 |nil=>simp[Zl]
 |cons a r =>
  unfold Zl
  split
  ·simp
  ·cases Zl c r<;>simp[hd1]
def subL (l:List Nat)(i j:Nat):List Nat:=(l.take j).drop i
theorem sub_eq (x:Str)(i j:Nat):strSub x i j=mk (subL (lS x) i j):=by
 rw[<-mk_l (strSub x i j)]
 congr 1
 unfold strSub lS subL
 simp[List.drop_take]
theorem pieces (c:Nat):∀(r pre:List Nat) (st:Nat),st<=pre.length ->
  ((st::(posF c pre.length r).map (·+1)).zip (posF c pre.length r++[pre.length+r.length])).map (fun p=>subL (pre++r) p.1 p.2)=hd1 (pre.drop st) (Zl c r)
 |[],pre,st,h=>by simp[posF,Zl,hd1,subL]
 |a::r,pre,st,h=>by
  have e1:pre++a::r=(pre++[a])++r:=by simp
  have e2:(pre++[a]).length=pre.length+1:=by simp
  unfold posF Zl
  by_cases hc:a=c
  ·rw[if_pos hc,if_pos hc]
   have ih:=pieces c r (pre++[a]) (pre.length+1) (by rw[e2];exact Nat.le_refl _)
   rw[e2] at ih
   have e3:(pre++[a]).drop (pre.length+1)=[]:=List.drop_eq_nil_of_le (by rw[e2];exact Nat.le_refl _)
   rw[e3] at ih
   have e4:hd1 [] (Zl c r)=Zl c r:=by
    cases e:Zl c r with
    |nil=>exact absurd e (Yb c r)
    |cons h t=>rfl
   rw[e4] at ih
   rw[List.map_cons,List.cons_append,List.zip_cons_cons,List.map_cons,List.length_cons,show pre.length+(r.length+1)=pre.length+1+r.length by lia,e1,ih]
   simp[hd1,subL]
  ·rw[if_neg hc,if_neg hc]
   have ih:=pieces c r (pre++[a]) st (by rw[e2];lia)
   rw[e2] at ih
   rw[List.length_cons,show pre.length+(r.length+1)=pre.length+1+r.length by lia,e1,ih,List.drop_append_of_le_length h]
   cases e:Zl c r with
   |nil=>exact absurd e (Yb c r)
   |cons h t=>simp[hd1]
theorem Qv {c:Nat}:∀{l:List Nat},c ∉ l->Zl c l=[l]
 |[],_=>rfl
 |a::r,h=>by
  have h1:¬a=c:=fun z=>h (by simp[z])
  have h2:c ∉ r:=fun z=>h (by simp[z])
  unfold Zl
  rw[if_neg h1,Qv h2]
  rfl
theorem posF_nil {c:Nat}:∀{l:List Nat} {k:Nat},posF c k l=[]->c ∉ l
 |[],_,_=>by simp
 |a::r,k,h=>by
  unfold posF at h
  split at h
  ·cases h
  ·rename_i hc
   have:=posF_nil h
   simp[this,Ne.symm hc]
theorem split_eq (z:Str)(c:Nat)(hc:c<256):(Txt.split z (mk [c]))=(Zl c (lS z)).map mk:=by
 have hk:Builtin.Str.strKind (mk [c])=1:=by simp[Builtin.Str.strKind,mk,hc]
 have hk2:1<=Builtin.Str.strKind z:=by unfold Builtin.Str.strKind;split<;>(try split)<;>decide
 have hl:(mk [c]).length=1:=rfl
 have ho:occurrences z (mk [c]) 0 z.length (z.length+1)=posF c 0 (lS z):=by
  rw[show mk [c]=⟨#[c]⟩ from rfl,occ_pos,List.take_of_length_le (by have:=posF_len c 0 (lS z);rw[Qn];lia)]
 unfold Txt.split
 rw[hl,hk]
 by_cases h1:(decide (z.length<1)||decide (Builtin.Str.strKind z<1))=true
 ·rw[if_pos h1]
  have:z.length<1:=by
   rcases Bool.or_eq_true_iff.mp h1 with h|h
   ·exact of_decide_eq_true h
   ·have:=of_decide_eq_true h;lia
  have e:lS z=[]:=List.length_eq_zero_iff.mp (by rw[<-Qn];lia)
  rw[e]
  show [z]=[mk []]
  rw[<-e,mk_l]
 ·rw[if_neg h1,ho]
  by_cases h2:(posF c 0 (lS z)).isEmpty=true
  ·rw[if_pos h2,Qv (posF_nil (List.isEmpty_iff.mp h2)),List.map_singleton,mk_l]
  ·rw[if_neg h2]
   unfold partsBetween
   have:=pieces c (lS z) [] 0 (Nat.le_refl _)
   have e4:hd1 ([].drop 0) (Zl c (lS z))=Zl c (lS z):=by
    cases e:Zl c (lS z) with
    |nil=>exact absurd e (Yb c _)
    |cons h t=>rfl
   rw[e4] at this
   rw[<-this,List.map_map]
   simp only[List.nil_append,List.length_nil,Nat.zero_add,Qn]
   refine List.map_congr_left fun p _=>?_
   exact sub_eq z p.1 p.2
end Law
set_option maxRecDepth 100000
set_option maxHeartbeats 4000000
set_option linter.all false
namespace Law
open PySem L2 DL PySem.Builtin PySem.Builtin.Str PySem.StrLaws PySem.NumText
theorem sl_from1 (z:Str):Txt.slice z (some 1) none=mk ((lS z).drop 1):=by
 by_cases h:1<=z.length
 ·rw[PyProof.Rows.slice_from_eq (b:=(z.length:Int)) (by decide) (by lia) rfl]
  show mk _=mk _
  congr 1
  rw[List.take_of_length_le]
  ·rfl
  ·rw[List.length_drop]
   have:=Qn z
   unfold lS at this
   have:(1:Int).toNat=1:=rfl
   lia
 ·rw[PyProof.Rows.slice_beyond (by lia)]
  have:(lS z).drop 1=[]:=List.drop_eq_nil_of_le (by rw[<-Qn];lia)
  rw[this]
  rfl
theorem len0 {z:Str}(h:z.length=0):z=mk []:=by
 have:lS z=[]:=List.length_eq_zero_iff.mp (by rw[<-Qn];exact h)
 rw[<-mk_l z,this]
theorem sl_to1 (z:Str):Txt.slice z none (some 1)=mk ((lS z).take 1):=by
 by_cases h:1<=z.length
 ·have h1:=Qn z
  have:=PyProof.Rows.slice_closes_to (x:=z) (j:=1) ⟨by decide,by unfold lS at h1;lia⟩
  rw[beq_iff_eq.mp this]
  show mk _=mk _
  congr 1
 ·have e0:z.length=0:=by lia
  have h1:=Txt.slice_le z none (some 1)
  rw[len0 (z:=Txt.slice z none (some 1)) (by lia)]
  have:lS z=[]:=List.length_eq_zero_iff.mp (by rw[<-Qn];exact e0)
  rw[this]
  rfl
def tw (c:Nat)(l:List Nat):List Nat:=l.takeWhile (· != c)
def af (c:Nat)(l:List Nat):List Nat:=(l.dropWhile (· != c)).drop 1
theorem tw_none {c:Nat}:∀{l:List Nat},c ∉ l->tw c l=l/\af c l=[]
 |[],_=>⟨rfl,rfl⟩
 |a::r,h=>by
  have h1:(a != c)=true:=by simp;exact fun z=>h (by simp[z])
  obtain⟨e1,e2⟩:=tw_none (c:=c) (l:=r) (fun z=>h (by simp[z]))
  unfold tw at e1
  unfold af at e2
  unfold tw af
  rw[List.takeWhile_cons,List.dropWhile_cons,h1]
  simp only[if_true,e1,e2,and_self]
theorem tw_some {c:Nat}:∀{l:List Nat},c∈l->l=tw c l++c::af c l/\c ∉ tw c l
 |[],h=>by simp at h
 |a::r,h=>by
  unfold tw af
  rw[List.takeWhile_cons,List.dropWhile_cons]
  by_cases h1:a=c
  ·subst h1;simp
  ·have h2:(a != c)=true:=by simp[h1]
   have h3:c∈r:=by
    rcases List.mem_cons.mp h with z|z
    ·exact absurd z.symm h1
    ·exact z
   obtain⟨e1,e2⟩:=tw_some h3
   unfold tw af at e1
   unfold tw at e2
   rw[h2]
   simp only[if_true,List.cons_append,List.mem_cons,not_or]
   exact⟨by rw[<-e1],Ne.symm h1,e2⟩
theorem posF_head {c:Nat}:∀{l:List Nat} {k:Nat},c∈l->∃r,posF c k l=(k+(tw c l).length)::r
 |[],_,h=>by simp at h
 |a::r,k,h=>by
  unfold posF tw
  rw[List.takeWhile_cons]
  by_cases h1:a=c
  ·subst h1;exact⟨_,by simp;rfl⟩
  ·have h2:(a != c)=true:=by simp[h1]
   have h3:c∈r:=by
    rcases List.mem_cons.mp h with z|z
    ·exact absurd z.symm h1
    ·exact z
   obtain⟨q,e⟩:=posF_head (k:=k+1) h3
   rw[if_neg h1,h2]
   refine⟨q,?_⟩
   rw[e]
   unfold tw
   simp
   lia
theorem posF_none {c:Nat}:∀{l:List Nat} {k:Nat},c ∉ l->posF c k l=[]
 |[],_,_=>rfl
 |a::r,k,h=>by
  unfold posF
  rw[if_neg (fun z=>h (by simp[z])),posF_none (fun z=>h (by simp[z]))]
theorem part_eq (z:Str)(c:Nat):∃m,partS z (mk [c])=[mk (tw c (lS z)),m,mk (af c (lS z))]:=by
 have ho:occurrences z (mk [c]) 0 z.length 1=(posF c 0 (lS z)).take 1:=occ_pos z c 1
 unfold partS
 rw[ho]
 by_cases h:c∈lS z
 ·obtain⟨r,e⟩:=posF_head (k:=0) h
  obtain⟨e1,_⟩:=tw_some h
  rw[e,List.take_succ_cons]
  refine⟨mk [c],?_⟩
  show [strSub z 0 _,mk [c],strSub z (_+1) z.length]=_
  have hl:z.length=(tw c (lS z)).length+1+(af c (lS z)).length:=by
   rw[Qn]
   conv=>lhs;rw[e1]
   simp
   lia
  rw[sub_eq,sub_eq,hl]
  unfold subL
  generalize hp:tw c (lS z)=p at *
  generalize hq:af c (lS z)=q at *
  rw[e1]
  congr 2
  ·congr 1
   simp
  ·congr 2
   rw[List.take_of_length_le (by simp;lia),show 0+p.length+1=(p++[c]).length by simp,show p++c::q=(p++[c])++q by simp,List.drop_left]
 ·rw[posF_none h,(tw_none h).1,(tw_none h).2,mk_l]
  exact⟨_,rfl⟩
theorem Qw {c:Nat}{l:List Nat}(h:c∈l):Zl c l=tw c l::Zl c (af c l):=by
 obtain⟨e1,e2⟩:=tw_some h
 have key:∀(p q:List Nat),c ∉ p->Zl c (p++c::q)=p::Zl c q:=by
  intro p
  induction p with
  |nil=>intro q _;simp[Zl]
  |cons a p ih =>
   intro q hp
   have h1:¬a=c:=fun z=>hp (by simp[z])
   rw[List.cons_append,Zl,if_neg h1,ih q (fun z=>hp (by simp[z]))]
   rfl
 conv=>lhs;rw[e1]
 exact key _ _ e2
theorem splitL_two {c:Nat}{l:List Nat}:(Zl c l).length=2↔c∈l/\c ∉ af c l:=by
 by_cases h:c∈l
 ·rw[Qw h]
  by_cases h2:c∈af c l
  ·rw[Qw h2]
   have:=Yb c (af c (af c l))
   cases e:Zl c (af c (af c l)) with
   |nil=>exact absurd e this
   |cons a r=>simp[h,h2]
  ·rw[Qv h2]
   simp[h,h2]
 ·rw[Qv h]
  simp[h]
theorem splitL_parts {c:Nat}{l:List Nat}(h:(Zl c l).length=2):Zl c l=[tw c l,af c l]:=by
 obtain⟨h1,h2⟩:=splitL_two.mp h
 rw[Qw h1,Qv h2]
theorem splitL_len (c:Nat):∀l:List Nat,(Zl c l).length<=l.length+1
 |[]=>by simp[Zl]
 |a::r=>by
  have:=splitL_len c r
  unfold Zl
  split
  ·simp;lia
  ·cases e:Zl c r with
   |nil=>simp[hd1]
   |cons h t=>rw[e] at this;simp[hd1] at this ⊢;lia
theorem Y3 {c:Nat}:∀{l p:List Nat},p∈Zl c l->p.length<=l.length
 |[],p,h=>by simp[Zl] at h;simp[h]
 |a::r,p,h=>by
  unfold Zl at h
  split at h
  ·rcases List.mem_cons.mp h with z|z
   ·simp[z]
   ·have:=Y3 z;simp;lia
  ·cases e:Zl c r with
   |nil=>exact absurd e (Yb c r)
   |cons q t =>
    rw[e] at h
    have key:∀y∈Zl c r,y.length<=r.length:=fun y hy=>Y3 hy
    rw[e] at key
    rcases List.mem_cons.mp h with z|z
    ·have:=key q (by simp);simp[z];lia
    ·have:=key p (by simp[z]);simp;lia
theorem tw_len (c:Nat)(l:List Nat):(tw c l).length<=l.length:=by
 by_cases h:c∈l
 ·conv=>rhs;rw[(tw_some h).1]
  simp
 ·rw[(tw_none h).1];exact Nat.le_refl _
theorem af_len (c:Nat)(l:List Nat):(af c l).length<=l.length:=by
 by_cases h:c∈l
 ·conv=>rhs;rw[(tw_some h).1]
  simp;lia
 ·rw[(tw_none h).2];simp
def dig (c:Nat):Bool:=decide (48<=c/\c<=57)
def small (l:List Nat):Option Nat:=if(decide (l.length=0)||(decide (2<l.length)||!(l.all dig)))||(decide (l.length=2)&&decide (l.head?=some 48)) then none else some (digitsVal l)
def optI:Option Nat->D
 |some n=>.int (n:Int)
 |none=>.non
theorem figs:lS (Str.ofString "0123456789")=[48,49,50,51,52,53,54,55,56,57]:=by decide +kernel
theorem inX_fig (c:Nat):gInX (.str ⟨#[c]⟩) (.str (Str.ofString "0123456789"))=.ok (.bl (dig c)):=by
 unfold gInX
 dsimp only
 rw[found_one]
 congr 2
 have:(Str.ofString "0123456789").cps.toList=[48,49,50,51,52,53,54,55,56,57]:=figs
 rw[this]
 unfold dig
 rw[Bool.eq_iff_iff]
 simp
 omega
theorem bools_map {α:Type}(f:α->Bool):∀l:List α,boolsOf (l.map fun a=>D.bl (f a))=some (l.map f)
 |[]=>rfl
 |a::r=>by rw[List.map_cons,List.map_cons,boolsOf,bools_map f r];rfl
theorem all_figs {z:Str}(hz:z.length<=1000000){sd:DSt}(h:sd[0]?=some (some (.im (.str z)))) :
  eCB bAll (Zd (eNew (Xf (iStr (Zc 0)) 1 [] (gNm 0) (eOp gInX (Zc 0) (eC (.str (Str.ofString "0123456789")))))) Zh) sd=.ok (.bl ((lS z).all dig)):=by
 have hv:Zc 0 sd=.ok (.str z):=by unfold Zc;rw[h]
 have e1:Xf (iStr (Zc 0)) 1 [] (gNm 0) (eOp gInX (Zc 0) (eC (.str (Str.ofString "0123456789")))) sd=.ok ((lS z).map fun c=>D.bl (dig c)):=by
  unfold Xf iStr
  rw[hv,M.bind_ok]
  dsimp only
  rw[M.bind_ok,few_of (by have:=Qn z;unfold lS at this;simp;unfold Str.length at hz;exact hz),if_pos rfl]
  rw[mapD_ok (φ:=fun d=>match d with | .str ⟨#[c]⟩=>.bl (dig c)|d=>d) (fun d hd=>?_)]
  ·rw[List.map_map];rfl
  ·obtain⟨c,_,rfl⟩:=List.mem_map.mp hd
   exact⟨_,rfl,Zm (x:=.str ⟨#[c]⟩) (y:=.str (Str.ofString "0123456789")) rfl rfl (inX_fig c)⟩
 refine cb_ok (a1 (show eNew _ sd=_ from ?_)) (r:=.ok (.bl ((lS z).all dig))) (ds:=[.lst ((lS z).map fun c=>D.bl (dig c))]) ?_
 ·unfold eNew;rw[e1];rfl
 ·unfold bAll
  dsimp only
  rw[bools_map]
  simp
theorem len_ok {z:Str}(hz:z.length<=1000000){sd:DSt}{i:Nat}(h:sd[i]?=some (some (.im (.str z)))):eCB Ys (Zd (Zc i) Zh) sd=.ok (.int (((lS z).length:Nat):Int)):=by
 have hv:Zc i sd=.ok (.str z):=by unfold Zc;rw[h]
 refine cb_ok (a1 hv) ?_
 show(if z.length<=sizeLine then _ else _)=_
 rw[if_pos (by rw[PySem.sizeLine_eq];lia),<-Qn]
theorem gEqI (a b:Int):gEq (.int a) (.int b)=.ok (.bl (decide (a=b))):=by
 unfold gEq
 rw[if_pos (by simp[D.dep]),D.eq]
 rfl
theorem gNeI (a b:Int):gNe (.int a) (.int b)=.ok (.bl (!decide (a=b))):=by
 unfold gNe
 rw[if_pos (by simp[D.dep]),D.eq]
 rfl
theorem beqS (a b:Str):(a==b)=decide (a=b):=by
 rw[Bool.eq_iff_iff];simp
theorem gEqS (a b:Str):gEq (.str a) (.str b)=.ok (.bl (decide (a=b))):=by
 unfold gEq
 rw[if_pos (by simp[D.dep]),D.eq,beqS]
theorem gNeS (a b:Str):gNe (.str a) (.str b)=.ok (.bl (!decide (a=b))):=by
 unfold gNe
 rw[if_pos (by simp[D.dep]),D.eq,beqS]
theorem intX_ok {z:Str}(h:(lS z).all dig=true)(h0:lS z≠[])(hl:z.length<=640):bIntX [.str z]=.ok (.int ((digitsVal (lS z):Nat):Int)):=by
 unfold bIntX
 dsimp only
 rw[if_pos hl,intText_digits (x:=z) (fun c hc=>by have:=List.all_eq_true.mp h c hc;unfold dig at this;exact of_decide_eq_true this) h0 (by lia)]
 rfl
end Law
set_option maxRecDepth 100000
set_option maxHeartbeats 4000000
set_option linter.all false
namespace Law
open PySem L2 DL PySem.Builtin PySem.Builtin.Str PySem.StrLaws PySem.NumText
theorem gGtI (a b:Int):gGt (.int a) (.int b)=.ok (.bl (decide (b<a))):=rfl
theorem tO_b {f g:DSt->M Bool}{sd:DSt}{a b:Bool}(h1:f sd=.ok a)(h2:g sd=.ok b):DL.tO f g sd=.ok (a||b):=by
 unfold DL.tO;rw[h1,M.bind_ok];cases a
 ·exact h2
 ·rfl
theorem zero_s:Str.ofString "0" = mk [48]:=by decide +kernel
theorem ix0 {z:Str}{a:Nat}{r:List Nat}(h:lS z=a::r)(hz:z.length<=1000000):gIx (.str z) (.int 0)=.ok (.str (mk [a])):=by
 show(if z.length<=sizeLine then _ else _)=_
 rw[if_pos (by rw[PySem.sizeLine_eq];lia)]
 have h':z.cps.toList=a::r:=h
 rw[h',atI0]
 rfl
def badW (l:List Nat):Bool:=decide (l.length=0)||(decide (9<l.length)||!(l.all dig))
def Yc (l:List Nat):Bool:=!badW l&&!(decide (1<l.length)&&decide (l.head?=some 48))
def whl (l:List Nat):Option Nat:=if Yc l then some (digitsVal l) else none
theorem whl_cases (l:List Nat):(badW l=true/\Yc l=false)\/(badW l=false/\l≠[]/\l.length<=9/\l.all dig=true/\∃a r,l=a::r/\Yc l=!decide (r≠[]/\a=48)):=by
 unfold Yc
 cases h:badW l with
 |true=>exact .inl ⟨rfl,rfl⟩
 |false =>
  have h0:=h
  unfold badW at h0
  rw[Bool.or_eq_false_iff,Bool.or_eq_false_iff] at h0
  obtain⟨h1,h2,h3⟩:=h0
  have h1:=of_decide_eq_false h1
  have h2:=of_decide_eq_false h2
  refine .inr ⟨rfl,fun z=>h1 (by rw[z];rfl),by lia,by simpa using h3,?_⟩
  cases l with
  |nil=>exact absurd rfl h1
  |cons a r =>
   refine⟨a,r,rfl,?_⟩
   cases r with
   |nil=>simp
   |cons b r=>simp
theorem f_whole_word (z:Str)(hz:z.length<=1000000):Qb [.str z]=.ok (.im (optI (whl (lS z)))):=by
 have hw:F_whole_in [.str z,.int 9]=.ok (.im (optI (whl (lS z)))):=by
  unfold F_whole_in
  rw[fn2]
  refine Q0 ?_
  have t1:DL.tO (DL.tB (eOp gEq (eCB Ys (Zd (Zc 0) Zh)) (eC (.int 0)))) (DL.tO (DL.tB (eOp gGt (eCB Ys (Zd (Zc 0) Zh)) (Zc 1))) (DL.tN (DL.tB (eCB bAll (Zd (eNew (Xf (iStr (Zc 0)) 1 [] (gNm 0) (eOp gInX (Zc 0) (eC (.str (Str.ofString "0123456789")))))) Zh))))) ([some (S.im (.str z)),some (S.im (.int 9))]++List.replicate 0 none)
    = .ok (badW (lS z)):=by
   unfold badW
   refine tO_b (Yu (Zm (len_ok hz rfl) rfl ?_)) (tO_b (Yu (Zm (len_ok hz rfl) rfl ?_)) (tN_b (Yu (all_figs hz rfl))))
   ·rw[gEqI];congr 2;rw[Bool.eq_iff_iff];simp
   ·rw[gGtI];congr 2;rw[Bool.eq_iff_iff];simp;lia
  unfold whl
  rcases whl_cases (lS z) with⟨h1,h2⟩|⟨h1,h2,h3,h4,a,r,e,h5⟩
  ·rw[h1] at t1
   rw[h2]
   exact sSeq_rt (Yw t1 (Qf rfl))
  ·rw[h1] at t1
   refine go (Ym t1) (Qf ?_)
   have hv:Zc 0 ([some (S.im (.str z)),some (S.im (.int 9))]++List.replicate 0 none)=.ok (.str z):=rfl
   have t2:DL.tO (DL.tB (eOp gEq (Zc 0) (eC (.str (Str.ofString "0"))))) (DL.tB (eOp gNe (eOp gIx (Zc 0) (eC (.int 0))) (eC (.str (Str.ofString "0"))))) ([some (S.im (.str z)),some (S.im (.int 9))]++List.replicate 0 none)=.ok (!decide (r≠[]/\a=48)):=by
    rw[tO_b (Yu (Zm hv rfl (gEqS _ _))) (Yu (Zm (Zm hv rfl (ix0 e hz)) rfl (gNeS _ _)))]
    congr 1
    rw[zero_s]
    have e1:(z=mk [48])↔(a=48/\r=[]):=by
     rw[<-mk_l z,e]
     exact⟨fun w=>by have:=mk_inj w;simpa using this,fun⟨w1,w2⟩=>by rw[w1,w2]⟩
    have e2:(mk [a]=mk [48])↔a=48:=⟨fun w=>by have:=mk_inj w;simpa using this,fun w=>by rw[w]⟩
    rw[Bool.eq_iff_iff]
    simp[e1,e2]
    by_cases ha:a=48<;>by_cases hr:r=[]<;>simp[ha,hr]
   rw[h5]
   by_cases hc:r≠[]/\a=48
   ·rw[decide_eq_true hc]
    exact eif_f (by rw[t2];simp[hc]) rfl
   ·rw[decide_eq_false hc]
    exact eif_t (by rw[t2,decide_eq_false hc];rfl) (cb_ok (a1 hv) (intX_ok h4 h2 (by rw[Qn];lia)))
 unfold Qb
 rw[fn1]
 refine Q0 (Qf (Z4 (aC rfl (a1 rfl)) hw rfl))
theorem dig_all {l:List Nat}(h:l.all dig=true):AllDigits l:=fun c hc=>by have:=List.all_eq_true.mp h c hc;unfold dig at this;exact of_decide_eq_true this
theorem canW_of {l:List Nat}(h:Yc l=true):l≠[]/\l.length<=9/\l.all dig=true/\(l.length=1\/∃c r,l=c::r/\49<=c):=by
 rcases whl_cases l with⟨_,h2⟩|⟨h1,h2,h3,h4,a,r,e,h5⟩
 ·rw[h2] at h;cases h
 ·refine⟨h2,h3,h4,?_⟩
  rw[h5] at h
  have hc:¬(r≠[]/\a=48):=fun w=>by rw[decide_eq_true w] at h;cases h
  by_cases hr:r=[]
  ·left;rw[e,hr];rfl
  ·right
   refine⟨a,r,e,?_⟩
   have ha:a≠48:=fun z=>hc ⟨hr,z⟩
   have:=(List.all_eq_true.mp h4) a (by rw[e];simp)
   unfold dig at this
   have:=of_decide_eq_true this
   lia
theorem back {l:List Nat}(h:Yc l=true):Str.ofString (toString ((digitsVal l:Nat):Int))=mk l:=by
 obtain⟨h1,h2,h3,h4⟩:=canW_of h
 have key:Nat.toDigits 10 (digitsVal l)=l.map Char.ofNat:=by
  have:=toDigits_digitsVal (l.length - 1) l (by have:0<l.length:=List.length_pos_iff.mpr h1;lia) (dig_all h3) (by
   rcases h4 with h4|h4
   ·left;lia
   ·exact .inr h4)
  exact this
 have e:lS (Str.ofString (toString ((digitsVal l:Nat):Int)))=l:=by
  show(Str.ofString (toString ((digitsVal l:Nat):Int))).cps.toList=l
  rw[PySem.W.KIN.signs_num,key,List.map_map]
  have:∀c∈l,(Char.toNat∘Char.ofNat) c=c:=fun c hc=>by
   have:=List.all_eq_true.mp h3 c hc
   unfold dig at this
   have:=of_decide_eq_true this
   have h':c.isValidChar:=by left;lia
   show(Char.ofNat c).toNat=c
   unfold Char.ofNat
   rw[dif_pos h']
   rfl
  rw[List.map_congr_left this]
  simp
 rw[<-mk_l (Str.ofString (toString ((digitsVal l:Nat):Int))),e]
end Law
set_option maxRecDepth 100000
set_option maxHeartbeats 4000000
set_option linter.all false
namespace Law
open PySem L2 DL
theorem tup2 {fa fb:DSt->M D}{sd:DSt}{a b:D}(h1:fa sd=.ok a)(h2:fb sd=.ok b):eTup (Zd fa (Zd fb Zh)) sd=.ok (.tup [a,b]):=by
 unfold eTup;rw[aC h1 (a1 h2)];rfl
theorem lst_of {fs:DSt->M (List D)}{sd:DSt}{ds:List D}(h:fs sd=.ok ds)(hf:few ds=true):eLst fs sd=.ok (.lst ds):=by
 unfold eLst
 rw[h,M.bind_ok,if_pos hf]
theorem gEq_b {x y:D}(h:x.dep<=60):gEq x y=.ok (.bl (D.eq x y)):=if_pos h
theorem gNe_b {x y:D}(h:x.dep<=60):gNe x y=.ok (.bl (!D.eq x y)):=if_pos h
theorem eq_int (a b:Int):gEq (.int a) (.int b)=.ok (.bl (a==b)):=by rw[gEq_b (by simp[D.dep])];simp only[D.eq]
theorem tA_b {f g:DSt->M Bool}{sd:DSt}{a b:Bool}(h1:f sd=.ok a)(h2:g sd=.ok b):DL.tA f g sd=.ok (a&&b):=by
 cases a
 ·exact tA_f h1
 ·exact tA_t h1 h2
theorem and_bb {f g:DSt->M D}{sd:DSt}{a b:Bool}(h1:f sd=.ok (.bl a))(h2:g sd=.ok (.bl b)):eAnd f g sd=.ok (.bl (a&&b)):=by
 cases a
 ·exact and_f h1
 ·exact and_ok h1 h2
theorem or_bb {f g:DSt->M D}{sd:DSt}{a b:Bool}(h1:f sd=.ok (.bl a))(h2:g sd=.ok (.bl b)):eOr f g sd=.ok (.bl (a||b)):=by
 cases a
 ·exact or_f h1 h2
 ·exact or_t h1
theorem deps_le {n:Nat}:∀{l:List D},(∀d∈l,d.dep<=n)->D.deps l<=n
 |[],_=>by simp[D.deps]
 |a::r,h=>by
  simp only[D.deps]
  have:=h a (by simp)
  have:=deps_le (l:=r) fun d hd=>h d (by simp[hd])
  lia
theorem app_ok {i:Nat}{f:DSt->M D}{sd:DSt}{ds:List D}{d:D}(h:sd[i]?=some (some (.ow ds)))(hf:f sd=.ok d)(hl:ds.length<=1000):sApp i f sd=.ok (.nx (sd.set i (some (.ow (ds++[d]))))):=by
 unfold sApp
 rw[h]
 dsimp only
 rw[hf,M.bind_ok,few_of (by lia),if_pos rfl]
theorem seq_t {f:DSt->M D}{sd:DSt}{ds:List D}(h:f sd=.ok (.tup ds)):iSeq f sd=.ok ds:=by
 unfold iSeq
 rw[h]
 rfl
theorem seq_l {f:DSt->M D}{sd:DSt}{ds:List D}(h:f sd=.ok (.lst ds)):iSeq f sd=.ok ds:=by
 unfold iSeq
 rw[h]
 rfl
theorem mapQ {α:Type}{gt:D->DSt->M DSt}{fe:DSt->M D}{sd0:DSt}(e g:α->D):∀l:List α,(∀a∈l,∃sd1,gt (e a) sd0=.ok sd1/\fe sd1=.ok (g a))->mapD gt fe sd0 (l.map e)=.ok (l.map g)
 |[],_=>rfl
 |a::l,h=>by
  obtain⟨sd1,h1,h2⟩:=h a (by simp)
  rw[List.map_cons,List.map_cons]
  simp only[mapD,h1,h2,mapQ e g l fun b hb=>h b (by simp[hb])]
theorem plus_l {xs ys:List D}(h:xs.length+ys.length<=1000):Zz (.lst xs) (.lst ys)=.ok (.lst (xs++ys)):=by
 show(if few (xs++ys) then M.ok (D.lst (xs++ys)) else .bad)=_
 rw[few_of (by rw[List.length_append];lia),if_pos rfl]
theorem gcd_step {g l:Int}(hg:0<=g)(hl:0<l):Int.gcd l (g % l)=Int.gcd g l:=by
 obtain⟨g',rfl⟩:=Int.eq_ofNat_of_zero_le hg
 obtain⟨l',rfl⟩:=Int.eq_ofNat_of_zero_le (Int.le_of_lt hl)
 rw[<-Int.natCast_emod]
 simp only[Int.gcd,Int.natAbs_natCast]
 rw[Nat.gcd_comm l',<-Nat.gcd_rec,Nat.gcd_comm]
theorem gcd_zero' {g:Int}(hg:0<=g):((Int.gcd g 0:Nat):Int)=g:=by
 rw[Int.gcd_zero_right];lia
theorem loop_cd (x y:Option S):∀(n:Nat) (g l:Int) (r:Option S),0<=g->0<=l->l.toNat<n ->
  ∃r',Q4 (DL.tB (eOp gNe (Zc 3) (eC (.int 0)))) (Zw (Z9 4 (eOp Yd (Zc 2) (Zc 3))) (Zw (Z9 2 (Zc 3)) (Z9 3 (Zc 4)))) n [x,y,some (.im (.int g)),some (.im (.int l)),r] =
   .ok (.nx [x,y,some (.im (.int (Int.gcd g l:Nat))),some (.im (.int 0)),r'])
 |0,_,_,_,_,_,h=>by lia
 |n+1,g,l,r,hg,hl,h=>by
  by_cases hz:l=0
  ·subst hz
   refine⟨r,?_⟩
   simp[Q4,DL.tB,eOp,Zc,eC,gNe,D.dep,D.eq,asB,gcd_zero' hg]
   lia
  ·have hp:0<l:=by lia
   have hm0:0<=g % l:=Int.emod_nonneg g (by lia)
   have hm1:g % l<l:=Int.emod_lt_of_pos g hp
   obtain⟨r',e⟩:=loop_cd x y n l (g % l) (some (.im (.int (g % l)))) hl hm0 (by lia)
   refine⟨r',?_⟩
   rw[gcd_step hg hp] at e
   rw[<-e]
   simp[Q4,DL.tB,eOp,Zc,eC,gNe,D.dep,D.eq,asB,Zw,Z9,gM hp,hz]
theorem ab (a:Int):(if a<0 then -a else a)=(a.natAbs:Int):=by split<;>lia
theorem abs_ok (a:Int):bAbs [.int a]=.ok (.int (a.natAbs:Int)):=by
 show M.ok (D.int (if a<0 then -a else a))=_
 rw[ab]
theorem f_cd (a b:Int):Yr [.int a,.int b]=.ok (.im (.int (Int.gcd a b:Nat))):=by
 obtain⟨r',e⟩:=loop_cd (some (.im (.int a))) (some (.im (.int b))) (b.natAbs+1) a.natAbs b.natAbs none (by lia) (by lia) (by lia)
 have e2:=sWhile_eq (c:=DL.tB (eOp gNe (Zc 3) (eC (.int 0)))) (f:=Zw (Z9 4 (eOp Yd (Zc 2) (Zc 3))) (Zw (Z9 2 (Zc 3)) (Z9 3 (Zc 4)))) (n:=b.natAbs+1) (sd:=[some (.im (.int a)),some (.im (.int b)),some (.im (.int a.natAbs)),some (.im (.int b.natAbs)),none]) (by rw[e];simp)
 rw[e] at e2
 refine(fn2 _ _ _ _).trans (Q0 (go (Q7 (cb_ok (a1 rfl) (abs_ok a))) (go (Q7 (cb_ok (a1 rfl) (abs_ok b))) (go e2 (Qf ?_)))))
 show M.ok (D.int ((Int.gcd (a.natAbs:Int) (b.natAbs:Int):Nat):Int))=_
 simp[Int.gcd]
theorem asg2 {f:DSt->M D}{i j:Nat}{sd:DSt}{a b:D}(h:f sd=.ok (.tup [a,b])):sAsg f (gTupD 2 (Y0 (gNm i) (Y0 (gNm j) gsNil))) sd=.ok (.nx ((sd.set i (some (.im a))).set j (some (.im b)))):=by
 unfold sAsg
 rw[h]
 rfl
theorem asg2l {f:DSt->M D}{i j:Nat}{sd:DSt}{a b:D}(h:f sd=.ok (.lst [a,b])):sAsg f (gTupD 2 (Y0 (gNm i) (Y0 (gNm j) gsNil))) sd=.ok (.nx ((sd.set i (some (.im a))).set j (some (.im b)))):=by
 unfold sAsg
 rw[h]
 rfl
def nD (p q:Int):D:=.tup [.int p,.int q]
def low (t b:Int):D:=nD (t / (Int.gcd t b:Nat)) (b / (Int.gcd t b:Nat))
theorem gcd_pos {t b:Int}(hb:b≠0\/t≠0):(0:Int)<(Int.gcd t b:Nat):=by
 have:0<Int.gcd t b:=Nat.pos_of_ne_zero fun z=>by
  have:=Int.gcd_eq_zero_iff.mp z
  lia
 lia
theorem m4 (a b c d:Int):a*b*(c*d)=a*c*(b*d):=by rw[Int.mul_assoc,Int.mul_assoc,Int.mul_left_comm b]
theorem low_spec {t b:Int}(hb:0<b):∃p q,low t b=nD p q/\0<q/\p*b=t*q/\Int.gcd p q=1/\p.natAbs<=t.natAbs/\q<=b:=by
 obtain⟨u,eu⟩:((Int.gcd t b:Nat):Int) ∣ t:=Int.gcd_dvd_left t b
 obtain⟨v,ev⟩:((Int.gcd t b:Nat):Int) ∣ b:=Int.gcd_dvd_right t b
 have gp:=gcd_pos (t:=t) (b:=b) (by lia)
 have hg:Int.gcd u v=1:=by
  have h1:Int.gcd ((Int.gcd t b:Nat)*u) ((Int.gcd t b:Nat)*v)=Int.gcd t b:=by rw[<-eu,<-ev]
  rw[Int.gcd_mul_left,Int.natAbs_natCast] at h1
  have h0:0<Int.gcd t b:=by lia
  exact Nat.eq_of_mul_eq_mul_left h0 (by rw[h1,Nat.mul_one])
 refine⟨t / (Int.gcd t b:Nat),b / (Int.gcd t b:Nat),rfl,?_⟩
 generalize ((Int.gcd t b:Nat):Int)=g at eu ev gp ⊢
 rw[eu,ev,Int.mul_ediv_cancel_left _ (by lia),Int.mul_ediv_cancel_left _ (by lia)]
 have v1:0<v:=by
  rcases Int.lt_or_le 0 v with h|h
  ·exact h
  ·have:=Int.mul_nonpos_of_nonneg_of_nonpos (Int.le_of_lt gp) h;lia
 refine⟨v1,by rw[Int.mul_left_comm,Int.mul_assoc],hg,?_,?_⟩
 ·rw[Int.natAbs_mul]
  exact Nat.le_mul_of_pos_left _ (by lia)
 ·have:=Int.mul_le_mul_of_nonneg_right (show(1:Int)<=g by lia) (Int.le_of_lt v1)
  lia
theorem frac_uniq {p q p' q':Int}(hq:0<q)(hq':0<q')(c:Int.gcd p q=1)(c':Int.gcd p' q'=1)(e:p*q'=p'*q):p=p'/\q=q':=by
 have half:∀{p q p' q':Int},Int.gcd p q=1->p*q'=p'*q->q ∣ q':=fun {p q p' q'} c e=>by
  have:q ∣ p*q':=by rw[e];exact Int.dvd_mul_left _ _
  have c2:Int.gcd q p=1:=by rw[Int.gcd_comm];exact c
  have h1:q.natAbs ∣ p.natAbs*q'.natAbs:=by rw[<-Int.natAbs_mul];exact Int.natAbs_dvd_natAbs.mpr this
  have h2:q.natAbs ∣ q'.natAbs:=Nat.Coprime.dvd_of_dvd_mul_left (show Nat.Coprime q.natAbs p.natAbs from c2) h1
  exact Int.natAbs_dvd_natAbs.mp h2
 have d1:=half c e
 have d2:=half c' e.symm
 have eq:q=q':=by
  have h1:=Int.le_of_dvd hq' d1
  have h2:=Int.le_of_dvd hq d2
  lia
 subst eq
 exact⟨Int.eq_of_mul_eq_mul_right (by lia) e,rfl⟩
theorem mul3 {a b c d e f:Int}(h1:a*b=c*d)(h2:e*f=a*d)(hd:d≠0):e*f*b=c*d*d:=by
 rw[h2,Int.mul_right_comm,h1]
theorem low_congr {t b t' b':Int}(hb:0<b)(hb':0<b')(e:t*b'=t'*b):low t b=low t' b':=by
 obtain⟨p,q,e1,q1,r1,c1,_⟩:=low_spec (t:=t) hb
 obtain⟨p',q',e2,q2,r2,c2,_⟩:=low_spec (t:=t') hb'
 have:p=p'/\q=q':=by
  refine frac_uniq q1 q2 c1 c2 ?_
  have h:(p*q')*(b*b')=(p'*q)*(b*b'):=by
   have a1:(p*q')*(b*b')=(p*b)*(q'*b'):=by rw[m4]
   have a2:(p'*q)*(b*b')=(p'*b')*(q*b):=by rw[Int.mul_comm b b',m4]
   have a3:(t*q)*(q'*b')=(t*b')*(q*q'):=by rw[Int.mul_comm q' b',m4]
   have a4:(t'*q')*(q*b)=(t'*b)*(q*q'):=by rw[Int.mul_comm q b,m4,Int.mul_comm q' q]
   rw[a1,a2,r1,r2,a3,a4,e]
  exact Int.eq_of_mul_eq_mul_right (Int.mul_ne_zero (by lia) (by lia)) h
 rw[e1,e2,this.1,this.2]
structure Fr (k:Nat) (p q:Int):Prop where
 pos:0<q
 top:p.natAbs<=10 ^ k
 bot:q.natAbs<=10 ^ k
theorem Fr.mono {j k:Nat}{p q:Int}(h:Fr j p q)(hk:j<=k):Fr k p q :=
 have:=Nat.pow_le_pow_right (show 0<10 by decide) hk
 ⟨h.pos,by have:=h.top;lia,by have:=h.bot;lia⟩
theorem low_fr {k:Nat}{t b:Int}(h:Fr k t b):∃p q,low t b=nD p q/\Fr k p q/\p*b=t*q/\Int.gcd p q=1:=by
 obtain⟨p,q,e,q1,r,c,h1,h2⟩:=low_spec (t:=t) h.pos
 have:=h.top
 have:=h.bot
 exact⟨p,q,e,⟨q1,by lia,by lia⟩,r,c⟩
theorem gcd_le {k:Nat}{t b:Int}(h:t.natAbs<=10 ^ k)(h2:b.natAbs<=10 ^ k):(((Int.gcd t b:Nat):Int)).natAbs<=10 ^ k:=by
 rw[Int.natAbs_natCast]
 by_cases hz:b=0
 ·subst hz;simpa using h
 ·have h1:((Int.gcd t b:Nat):Int) ∣ b:=Int.gcd_dvd_right t b
  have h2:=Nat.le_of_dvd (by lia) (Int.natAbs_dvd_natAbs.mpr h1)
  rw[Int.natAbs_natCast] at h2
  lia
theorem f_amount {k:Nat}{t b:Int}(h:Fr k t b)(hk:k<=900):F_amount [.int t,.int b]=.ok (.im (low t b)):=by
 have gp:=gcd_pos (t:=t) (b:=b) (by have:=h.pos;lia)
 have gs:sm ((Int.gcd t b:Nat):Int)=true:=sm_of (gcd_le h.top h.bot) hk
 exact(fn2 _ _ _ _).trans (Q0 (go (Q7 (Z4 (aC rfl (a1 rfl)) (f_cd t b) rfl)) (Qf (tup2 (Zm rfl rfl (gFd gp gs)) (Zm rfl rfl (gFd gp gs))))))
theorem ten_le {j k:Nat}(h:j<=k):(10:Nat) ^ j<=10 ^ k:=Nat.pow_le_pow_right (by decide) h
theorem fr_add {k:Nat}{a b c d:Int}(h1:Fr k a b)(h2:Fr k c d):Fr (k+k+1) (a*d+c*b) (b*d) :=
 ⟨Int.mul_pos h1.pos h2.pos,add_le' (mul_le' h1.top h2.bot) (mul_le' h2.top h1.bot),Nat.le_trans (mul_le' h1.bot h2.bot) (ten_le (by lia))⟩
theorem fr_sub {k:Nat}{a b c d:Int}(h1:Fr k a b)(h2:Fr k c d):Fr (k+k+1) (a*d - c*b) (b*d) :=
 ⟨Int.mul_pos h1.pos h2.pos,sub_le' (mul_le' h1.top h2.bot) (mul_le' h2.top h1.bot),Nat.le_trans (mul_le' h1.bot h2.bot) (ten_le (by lia))⟩
theorem ixt_ok {fa fb:DSt->M D}{sd:DSt}{ds:List D}{i:Int}{d:D}(h:fa sd=.ok (.tup ds))(h2:fb sd=.ok (.int i))(e:atI ds i=some d):eOp gIx fa fb sd=.ok d:=by
 refine Zm h h2 ?_
 show(match atI ds i with|some d=>M.ok d|none=>.bad)=_
 rw[e]
theorem f_below {k:Nat}{a b c d:Int}(h1:Fr k a b)(h2:Fr k c d)(hk:k<=400):F_below [nD a b,nD c d]=.ok (.im (.bl (decide (a*d<c*b)))):=by
 have sa:=sm_of h1.top (by lia)
 have sb:=sm_of h1.bot (by lia)
 have sc:=sm_of h2.top (by lia)
 have sd:=sm_of h2.bot (by lia)
 exact(fn2 _ _ _ _).trans (Q0 (Qf (Zm (Zm (ixt_ok rfl rfl (atI0 _ _)) (ixt_ok rfl rfl (atI1 _ _ _)) (gT sa sd)) (Zm (ixt_ok rfl rfl (atI0 _ _)) (ixt_ok rfl rfl (atI1 _ _ _)) (gT sc sb)) rfl)))
theorem par_ok {i j:Nat}{fs:DSt->M (List D)}{sd:DSt}{a b:D}(h:fs sd=.ok [a,b]):sPar i j fs sd=.ok (.nx ((sd.set i (some (.im a))).set j (some (.im b)))):=by
 unfold sPar
 rw[h]
 rfl
theorem loop_lc:∀(n:Nat) (hi lo:Int),0<=hi->0<=lo->lo.toNat<n ->
  Q4 (DL.tB (eOp gGt (Zc 1) (eC (.int 0)))) (sPar 0 1 (Zd (Zc 1) (Zd (eOp Yd (Zc 0) (Zc 1)) Zh))) n [some (.im (.int hi)),some (.im (.int lo))] =
   .ok (.nx [some (.im (.int (Int.gcd hi lo:Nat))),some (.im (.int 0))])
 |0,_,_,_,_,h=>by lia
 |n+1,hi,lo,hg,hl,h=>by
  by_cases hz:lo=0
  ·subst hz
   simp[Q4,DL.tB,eOp,Zc,eC,gGt,gI0,asB]
   lia
  ·have hp:0<lo:=by lia
   have hm0:0<=hi % lo:=Int.emod_nonneg hi (by lia)
   have hm1:hi % lo<lo:=Int.emod_lt_of_pos hi hp
   have e:=loop_lc n lo (hi % lo) hl hm0 (by lia)
   rw[gcd_step hg hp] at e
   rw[<-e]
   simp[Q4,DL.tB,eOp,Zc,eC,gGt,gI0,asB,sPar,Zd,Zh,gM hp,hp]
theorem f_lc (a b:Int):Y2 [.int a,.int b]=.ok (.im (.int (Int.gcd a b:Nat))):=by
 have e:=loop_lc (b.natAbs+1) a.natAbs b.natAbs (by lia) (by lia) (by lia)
 have e2:=sWhile_eq (c:=DL.tB (eOp gGt (Zc 1) (eC (.int 0)))) (f:=sPar 0 1 (Zd (Zc 1) (Zd (eOp Yd (Zc 0) (Zc 1)) Zh))) (n:=b.natAbs+1) (sd:=[some (.im (.int a.natAbs)),some (.im (.int b.natAbs))]) (by rw[e];simp)
 rw[e] at e2
 refine(fn2 _ _ _ _).trans (Q0 (go (Q7 (cb_ok (a1 rfl) (abs_ok a))) (go (Q7 (cb_ok (a1 rfl) (abs_ok b))) (go e2 (Qf ?_)))))
 show M.ok (D.int ((Int.gcd (a.natAbs:Int) (b.natAbs:Int):Nat):Int))=_
 simp[Int.gcd]
theorem f_low {k:Nat}{t b:Int}(h:Fr k t b)(hk:k<=900):F_l_lowest [.int t,.int b]=.ok (.im (low t b)):=by
 have gp:=gcd_pos (t:=t) (b:=b) (by have:=h.pos;lia)
 have gs:sm ((Int.gcd t b:Nat):Int)=true:=sm_of (gcd_le h.top h.bot) hk
 exact(fn2 _ _ _ _).trans (Q0 (go (Q7 (Z4 (aC rfl (a1 rfl)) (f_lc t b) rfl)) (Qf (tup2 (Zm rfl rfl (gFd gp gs)) (Zm rfl rfl (gFd gp gs))))))
end Law
set_option maxRecDepth 100000
set_option maxHeartbeats 4000000
set_option linter.all false
namespace Law
open PySem L2 DL PySem.Builtin PySem.Builtin.Str PySem.StrLaws PySem.NumText
def nmS (i:Int):Str:=Str.ofString (toString i)
def dg (m:Nat):List Nat:=(Nat.toDigits 10 m).map Char.toNat
theorem nm_nat (m:Nat):lS (nmS (m:Int))=dg m:=PySem.W.KIN.signs_num m
theorem dg_val (m:Nat):digitsVal (dg m)=m:=PySem.W.KIN.val_back m
theorem dg_back {l:List Nat}(h:Yc l=true):dg (digitsVal l)=l:=by
 rw[<-nm_nat]
 show lS (Str.ofString (toString ((digitsVal l:Nat):Int)))=l
 rw[back h,l_mk]
theorem nm_neg {m:Nat}(h:0<m):lS (nmS (-(m:Int)))=45::dg m:=by
 obtain⟨k,rfl⟩:∃k,m=k+1:=⟨m - 1,by lia⟩
 have e:toString (-((k+1:Nat):Int)) = "-" ++ toString (((k+1:Nat)):Int):=rfl
 unfold nmS
 rw[e]
 have e2:∀a b:String,lS (Str.ofString (a++b))=lS (Str.ofString a)++lS (Str.ofString b):=fun a b=>by
  show(Str.ofString (a++b)).cps.toList=(Str.ofString a).cps.toList++(Str.ofString b).cps.toList
  rw[PyProof.Rows.signs_ofString,PyProof.Rows.signs_ofString,PyProof.Rows.signs_ofString,String.toList_append,List.map_append]
 rw[e2]
 have:=nm_nat (k+1)
 unfold nmS at this
 rw[this]
 rfl
theorem dg_dig (m:Nat):∀c∈dg m,dig c=true:=by
 intro c hc
 obtain⟨x,hx,rfl⟩:=List.mem_map.mp hc
 have:=Nat.isDigit_of_mem_toDigits (by decide) (by decide) hx
 unfold dig
 have h2:x.isDigit=true:=this
 simp[Char.isDigit] at h2
 exact decide_eq_true ⟨h2.1,h2.2⟩
theorem dg_ne (m:Nat):dg m≠[]:=by
 intro e
 have h:=dg_val m
 unfold dg at e
 have:=List.map_eq_nil_iff.mp e
 exact absurd this (by simp)
theorem no47 {l:List Nat}(h:∀c∈l,dig c=true):47 ∉ l:=fun z=>by have:=h 47 z;revert this;decide
theorem no45 {l:List Nat}(h:∀c∈l,dig c=true):45 ∉ l:=fun z=>by have:=h 45 z;revert this;decide
def sg (n:Bool)(p:Nat):Int:=if n then -(p:Int) else p
def wrd (n:Bool)(l:List Nat):List Nat:=if n then 45::l else l
theorem sl_s:lS (Str.ofString "/")=[47]:=by decide +kernel
def shw (t b:Int):Str:=if b=1 then nmS t else nmS t++Str.ofString "/" ++ nmS b
theorem nm_any (i:Int):lS (nmS i)=wrd (decide (i<0)) (dg i.natAbs):=by
 by_cases h:i<0
 ·have e:i = -((i.natAbs:Nat):Int):=by lia
  rw[decide_eq_true h]
  show _=45::_
  rw[<-nm_neg (m:=i.natAbs) (by lia),<-e]
 ·have e:i=((i.natAbs:Nat):Int):=by lia
  rw[decide_eq_false h]
  show _=dg _
  rw[<-nm_nat,<-e]
theorem nm47 (i:Int):47 ∉ lS (nmS i):=by
 rw[nm_any]
 unfold wrd
 split
 ·intro z
  rcases List.mem_cons.mp z with z|z
  ·cases z
  ·exact no47 (dg_dig _) z
 ·exact no47 (dg_dig _)
theorem nm_word {t:List Nat}(ht:Yc t=true)(n:Bool)(i:Int):lS (nmS i)=wrd n t↔(i=sg n (digitsVal t)/\¬(n=true/\digitsVal t=0)):=by
 have dt:∀c∈t,dig c=true:=fun c hc=>List.all_eq_true.mp (canW_of ht).2.2.1 c hc
 rw[nm_any]
 constructor
 ·intro e
  cases n with
  |false =>
   refine⟨?_,fun z=>by cases z.1⟩
   unfold wrd at e
   by_cases h:i<0
   ·rw[decide_eq_true h] at e
    exact absurd (show 45∈t by rw[<-show(45::dg i.natAbs)=t from e];simp) (no45 dt)
   ·rw[decide_eq_false h] at e
    have e:dg i.natAbs=t:=e
    have:=dg_val i.natAbs
    rw[e] at this
    show i=((digitsVal t:Nat):Int)
    lia
  |true =>
   unfold wrd at e
   by_cases h:i<0
   ·rw[decide_eq_true h] at e
    have e:45::dg i.natAbs=45::t:=e
    have e:=List.cons.inj e
    have:=dg_val i.natAbs
    rw[e.2] at this
    refine⟨?_,fun z=>by have:=z.2;lia⟩
    show i = -((digitsVal t:Nat):Int)
    lia
   ·rw[decide_eq_false h] at e
    have e:dg i.natAbs=45::t:=e
    exact absurd (show 45∈dg i.natAbs by rw[e];simp) (no45 (dg_dig _))
 ·rintro⟨rfl,h⟩
  cases n with
  |false =>
   show wrd (decide (((digitsVal t:Nat):Int)<0)) (dg ((digitsVal t:Nat):Int).natAbs)=t
   rw[decide_eq_false (by lia)]
   show dg _=t
   rw[Int.natAbs_natCast,dg_back ht]
  |true =>
   have h0:0<digitsVal t:=Nat.pos_of_ne_zero fun z=>h ⟨rfl,z⟩
   show wrd (decide (-((digitsVal t:Nat):Int)<0)) (dg (-((digitsVal t:Nat):Int)).natAbs)=45::t
   rw[decide_eq_true (by lia)]
   show 45::dg _=_
   rw[Int.natAbs_neg,Int.natAbs_natCast,dg_back ht]
theorem app_inj47 {a b c d:List Nat}(ha:47 ∉ a)(hc:47 ∉ c)(e:a++47::b=c++47::d):a=c/\b=d:=by
 induction a generalizing c with
 |nil =>
  cases c with
  |nil=>exact⟨rfl,(List.cons.inj e).2⟩
  |cons x c =>
   have:=(List.cons.inj e).1
   exact absurd (by rw[this];simp) hc
 |cons x a ih =>
  cases c with
  |nil =>
   have:=(List.cons.inj e).1
   exact absurd (by rw[<-this];simp) ha
  |cons y c =>
   obtain⟨e1,e2⟩:=List.cons.inj e
   obtain⟨e3,e4⟩:=ih (fun z=>ha (by simp[z])) (fun z=>hc (by simp[z])) e2
   exact⟨by rw[e1,e3],e4⟩
theorem shw_one {t:List Nat}(ht:Yc t=true)(n:Bool):lS (shw (sg n (digitsVal t)) 1)=wrd n t↔¬(n=true/\digitsVal t=0):=by
 unfold shw
 rw[if_pos rfl,nm_word ht]
 exact⟨fun h=>h.2,fun h=>⟨rfl,h⟩⟩
theorem wrd47 {t:List Nat}(ht:Yc t=true)(n:Bool):47 ∉ wrd n t:=by
 have dt:∀c∈t,dig c=true:=fun c hc=>List.all_eq_true.mp (canW_of ht).2.2.1 c hc
 cases n with
 |false=>exact no47 dt
 |true =>
  intro z
  rcases List.mem_cons.mp z with z|z
  ·cases z
  ·exact no47 dt z
theorem shw_two {t b:List Nat}(ht:Yc t=true)(hb:Yc b=true)(h0:digitsVal b≠0)(n:Bool){P Q:Int}(hQ:0<Q)(e:P*(digitsVal b:Nat)=sg n (digitsVal t)*Q)(g:Int.gcd P Q=1) :
  lS (shw P Q)=wrd n t++47::b↔(1<digitsVal b/\Nat.gcd (digitsVal t) (digitsVal b)=1/\¬(n=true/\digitsVal t=0)):=by
 have gs:∀q:Nat,Int.gcd (sg n (digitsVal t)) (q:Int)=Nat.gcd (digitsVal t) q:=fun q=>by
  unfold sg
  cases n<;>simp[Int.gcd]
 unfold shw
 constructor
 ·intro w
  by_cases h1:Q=1
  ·rw[if_pos h1] at w
   exact absurd (by rw[w];simp) (nm47 P)
  ·rw[if_neg h1,l_app,l_app,sl_s,List.append_assoc] at w
   obtain⟨w1,w2⟩:=app_inj47 (nm47 P) (wrd47 ht n) w
   obtain⟨p1,p2⟩:=(nm_word ht n P).mp w1
   have q1:=(nm_word hb false Q).mp w2
   have q1:Q=((digitsVal b:Nat):Int):=q1.1
   refine⟨by lia,?_,p2⟩
   rw[p1,q1,gs] at g
   exact g
 ·rintro⟨h1,h2,h3⟩
  have u:=frac_uniq (p:=P) (q:=Q) (p':=sg n (digitsVal t)) (q':=((digitsVal b:Nat):Int)) hQ (by lia) g (by rw[gs];exact h2) e
  rw[u.1,u.2,if_neg (by lia),l_app,l_app,sl_s,List.append_assoc,(nm_word ht n _).mpr ⟨rfl,h3⟩]
  have:lS (nmS ((digitsVal b:Nat):Int))=b:=(nm_word hb false _).mpr ⟨rfl,fun z=>by cases z.1⟩
  rw[this]
  rfl
end Law
set_option maxRecDepth 100000
set_option maxHeartbeats 4000000
set_option linter.all false
namespace Law
open PySem L2 DL PySem.Builtin PySem.Builtin.Str PySem.StrLaws PySem.NumText
theorem size1 {z:Str}(h:z.length<=1000000):z.length<=sizeLine:=by rw[PySem.sizeLine_eq];lia
theorem min_s:Str.ofString "-" = mk [45]:=by decide +kernel
theorem sla_s:Str.ofString "/" = mk [47]:=by decide +kernel
theorem ixT0 (a:D)(r:List D):gIx (.tup (a::r)) (.int 0)=.ok a:=by
 show(match atI (a::r) 0 with|some d=>M.ok d|none=>.bad)=_
 rw[atI0]
theorem ixT1 (a b:D)(r:List D):gIx (.tup (a::b::r)) (.int 1)=.ok b:=by
 show(match atI (a::b::r) 1 with|some d=>M.ok d|none=>.bad)=_
 rw[atI1]
theorem ixT2 (a b c:D)(r:List D):gIx (.tup (a::b::c::r)) (.int 2)=.ok c:=by
 show(match atI (a::b::c::r) 2 with|some d=>M.ok d|none=>.bad)=_
 rw[atI2]
theorem isN_opt (o:Option Nat):gIsN (optI o) .non=.ok (.bl o.isNone):=by cases o<;>rfl
theorem slX_from {f:DSt->M D}{sd:DSt}{z:Str}(h:f sd=.ok (.str z))(hz:z.length<=1000000):eSlX f (Qi (eC (.int 1))) Qh sd=.ok (.str (mk ((lS z).drop 1))):=by
 unfold eSlX
 rw[h,M.bind_ok]
 show(M.ok (some (1:Int))).bind _=_
 rw[M.bind_ok]
 show(M.ok none).bind _=_
 rw[M.bind_ok]
 show(if z.length<=sizeLine then _ else _)=_
 rw[if_pos (size1 hz),sl_from1]
theorem un_ok {g:D->M D}{f:DSt->M D}{sd:DSt}{d:D}{r:M D}(h:f sd=.ok d)(h2:g d=r):eUn g f sd=r:=by unfold eUn;rw[h,M.bind_ok,h2]
theorem part_eq' (z:Str)(c:Nat):partS z (mk [c])=[mk (tw c (lS z)),mk (if c∈lS z then [c] else []),mk (af c (lS z))]:=by
 obtain⟨m,e⟩:=part_eq z c
 rw[e]
 congr 2
 have ho:occurrences z (mk [c]) 0 z.length 1=(posF c 0 (lS z)).take 1:=occ_pos z c 1
 unfold partS at e
 rw[ho] at e
 by_cases h:c∈lS z
 ·obtain⟨r,e'⟩:=posF_head (k:=0) h
  rw[e',List.take_succ_cons] at e
  rw[if_pos h]
  exact((List.cons.inj (List.cons.inj e).2).1).symm
 ·rw[posF_none h] at e
  rw[if_neg h]
  exact((List.cons.inj (List.cons.inj e).2).1).symm
theorem ePart_ok {f g:DSt->M D}{sd:DSt}{z:Str}{c:Nat}(h1:f sd=.ok (.str z))(h2:g sd=.ok (.str (mk [c])))(hz:z.length<=1000000):ePart f g sd=.ok (.tup [.str (mk (tw c (lS z))),.str (mk (if c∈lS z then [c] else [])),.str (mk (af c (lS z)))]):=by
 unfold ePart
 rw[h1,M.bind_ok]
 dsimp only
 rw[h2,M.bind_ok]
 dsimp only
 rw[if_pos ⟨rfl,size1 hz⟩,part_eq']
 rfl
theorem starts_one (z:Str)(c:Nat):Txt.startswith z (mk [c])=decide ((lS z).head?=some c):=by
 have h:=subAt_one z c 0
 unfold Txt.startswith
 rw[Bool.eq_iff_iff,Bool.and_eq_true,decide_eq_true_eq,decide_eq_true_eq]
 show(0+(⟨#[c]⟩:Str).length<=z.length/\subAt z ⟨#[c]⟩ 0=true)↔_
 rw[h]
 show(lS z)[0]?=some c↔_
 rw[List.head?_eq_getElem?]
def ng (l:List Nat):Bool:=decide (l.head?=some 45)
def bd (l:List Nat):List Nat:=if ng l then l.drop 1 else l
def tp (l:List Nat):List Nat:=tw 47 (bd l)
def bt (l:List Nat):List Nat:=af 47 (bd l)
def slh (l:List Nat):Bool:=decide (47∈bd l)
def Qd (l:List Nat):Bool:=Yc (tp l)&&(!(ng l&&decide (digitsVal (tp l)=0))&&(!slh l||(Yc (bt l)&&(decide (1<digitsVal (bt l))&&decide (Nat.gcd (digitsVal (tp l)) (digitsVal (bt l))=1)))))
def Y6 (l:List Nat):D:=nD (sg (ng l) (digitsVal (tp l))) (if slh l then(digitsVal (bt l):Nat) else 1)
theorem word_is (l:List Nat):l=wrd (ng l) (if slh l then tp l++47::bt l else tp l):=by
 have e1:bd l=if slh l then tp l++47::bt l else tp l:=by
  unfold slh tp bt
  by_cases h:47∈bd l
  ·rw[decide_eq_true h,if_pos rfl];exact(tw_some h).1
  ·rw[decide_eq_false h,if_neg (by decide)];exact(tw_none h).1.symm
 rw[<-e1]
 unfold bd wrd ng
 cases l with
 |nil=>rfl
 |cons a r =>
  by_cases h:a=45
  ·subst h;simp
  ·simp[h]
theorem nm_len {i:Int}(h:i.natAbs<10 ^ 10):(nmS i).length<=100:=by
 rw[Qn,nm_any]
 have:=PySem.W.KT.len_num (n:=((i.natAbs:Nat):Int)) (by lia) (by exact_mod_cast h)
 have e:(Str.ofString (toString ((i.natAbs:Nat):Int))).length=(dg i.natAbs).length:=by
  rw[Qn]
  exact congrArg List.length (nm_nat i.natAbs)
 rw[e] at this
 unfold wrd
 split
 ·rw[List.length_cons];lia
 ·lia
theorem fmt_ok {f:DSt->M D}{sd:DSt}{i:Int}(h:f sd=.ok (.int i))(hi:i.natAbs<10 ^ 10):eUn gFmt f sd=.ok (.str (nmS i)):=by
 refine un_ok h ?_
 show(if i.natAbs.log2<1920 then _ else _)=_
 rw[if_pos]
 ·rfl
 ·by_cases h0:i.natAbs=0
  ·rw[h0];decide
  ·exact(Nat.log2_lt h0).mpr (Nat.lt_of_lt_of_le hi (Nat.le_trans (show 10 ^ 10<=2 ^ 40 by decide) (Nat.pow_le_pow_right (by decide) (by decide))))
theorem f_show {P Q:Int}(hP:P.natAbs<10 ^ 10)(hQ:Q.natAbs<10 ^ 10):Yj [nD P Q]=.ok (.im (.str (shw P Q))):=by
 unfold Yj
 rw[fn1]
 refine Q0 (go (Q7 (Zm rfl rfl (ixT0 _ _))) (go (Q7 (Zm rfl rfl (ixT1 _ _ _))) (Qf ?_)))
 unfold shw
 have t:=Yu (f:=eOp gEq (Zc 2) (eC (.int 1))) (sd:=[some (S.im (nD P Q)),some (S.im (.int P)),some (S.im (.int Q))]) (Zm rfl rfl (gEqI Q 1))
 by_cases h:Q=1
 ·rw[decide_eq_true h] at t
  rw[if_pos h]
  exact eif_t t (fmt_ok rfl hP)
 ·rw[decide_eq_false h] at t
  rw[if_neg h]
  refine eif_f t ?_
  have l1:=nm_len hP
  have l2:=nm_len hQ
  have e0:Str.empty++nmS P=nmS P:=by rw[<-mk_l (Str.empty++nmS P),l_app,show lS Str.empty=[] from rfl,List.nil_append,mk_l]
  have la:(nmS P++Str.ofString "/").length<=101:=by rw[Qn,l_app,List.length_append,sl_s,<-Qn];simp;lia
  have lb:(nmS P++Str.ofString "/" ++ nmS Q).length<=1000:=by rw[Qn,l_app,List.length_append,<-Qn,<-Qn];lia
  have hz:sizeLine=sizeLine:=rfl
  unfold eJoined jCons
  rw[fmt_ok rfl hP,M.bind_ok]
  dsimp only
  rw[e0,if_pos (size1 (by lia))]
  show(M.ok (D.str (Str.ofString "/"))).bind _=_
  rw[M.bind_ok]
  dsimp only
  rw[if_pos (size1 (by lia)),fmt_ok rfl hQ,M.bind_ok]
  dsimp only
  rw[if_pos (size1 (by lia))]
  rfl
end Law
set_option maxRecDepth 100000
set_option maxHeartbeats 4000000
set_option linter.all false
namespace Law
open PySem L2 DL PySem.Builtin PySem.Builtin.Str PySem.StrLaws PySem.NumText
theorem val_lt {l:List Nat}(h:Yc l=true):digitsVal l<10 ^ 9:=by
 obtain⟨h1,h2,h3,_⟩:=canW_of h
 have key:∀(l:List Nat) (a:Nat),(∀c∈l,dig c=true)->l.foldl (fun n c=>n*10+(c - 48)) a<(a+1)*10 ^ l.length:=by
  intro l
  induction l with
  |nil=>intro a _;simp
  |cons c r ih =>
   intro a hd
   have hc:=hd c (by simp)
   unfold dig at hc
   have hc:=of_decide_eq_true hc
   have:=ih (a*10+(c - 48)) fun x hx=>hd x (by simp[hx])
   rw[List.foldl_cons,List.length_cons,Nat.pow_succ]
   refine Nat.lt_of_lt_of_le this ?_
   have e:(a*10+(c - 48)+1)<=(a+1)*10:=by lia
   calc (a*10+(c - 48)+1)*10 ^ r.length<=((a+1)*10)*10 ^ r.length:=Nat.mul_le_mul_right _ e
    _=(a+1)*(10 ^ r.length*10):=by rw[Nat.mul_assoc,Nat.mul_comm 10]
 have:=key l 0 fun c hc=>List.all_eq_true.mp h3 c hc
 have e:digitsVal l=l.foldl (fun n c=>n*10+(c - 48)) 0:=rfl
 rw[e]
 refine Nat.lt_of_lt_of_le this ?_
 rw[Nat.zero_add,Nat.one_mul]
 exact Nat.pow_le_pow_right (by decide) h2
theorem bd_len (l:List Nat):(bd l).length<=l.length:=by
 unfold bd
 split
 ·rw[List.length_drop];lia
 ·exact Nat.le_refl _
theorem mk_lt {l:List Nat}(h:l.length<=1000000):(mk l).length<=1000000:=by rw[mk_len];exact h
theorem isN_int (i:Int):gIsN (.int i) .non=.ok (.bl false):=rfl
theorem eq0 (o:Option Nat):gEq (optI o) (.int 0)=.ok (.bl (decide (o=some 0))):=by
 cases o with
 |none =>
  show(if _ then _ else _)=_
  rw[if_pos (by simp[optI,D.dep])]
  rfl
 |some n =>
  show gEq (.int (n:Int)) (.int 0)=_
  rw[gEqI]
  congr 2
  rw[Bool.eq_iff_iff]
  simp
theorem f_number_word (z:Str)(hz:z.length<=1000000):Qt [.str z]=.ok (.im (if Qd (lS z) then Y6 (lS z) else .non)):=by
 have hl:(lS z).length<=1000000:=by rw[<-Qn];exact hz
 generalize el:lS z=l at *
 have hbd:(bd l).length<=1000000:=Nat.le_trans (bd_len l) hl
 have ht:(mk (tp l)).length<=1000000:=mk_lt (Nat.le_trans (tw_len 47 (bd l)) hbd)
 have hb:(mk (bt l)).length<=1000000:=mk_lt (Nat.le_trans (af_len 47 (bd l)) hbd)
 unfold Qt
 rw[fn1]
 refine Q0 ?_
 have s1:eStarts (Zc 0) (eC (.str (Str.ofString "-"))) ([some (S.im (.str z))]++List.replicate 5 none)=.ok (.bl (ng l)):=by
  show M.ok (D.bl (Txt.startswith z (Str.ofString "-")))=_
  rw[min_s,starts_one,el]
  rfl
 refine go (Q7 s1) ?_
 have s2:eIf (DL.tB (Zc 1)) (ePart (eSlX (Zc 0) (Qi (eC (.int 1))) Qh) (eC (.str (Str.ofString "/")))) (ePart (Zc 0) (eC (.str (Str.ofString "/")))) [some (S.im (.str z)),some (S.im (.bl (ng l))),none,none,none,none]
   = .ok (.tup [.str (mk (tp l)),.str (mk (if slh l then [47] else [])),.str (mk (bt l))]):=by
  have e:∀y:Str,lS y=bd l->(.ok (.tup [.str (mk (tw 47 (lS y))),.str (mk (if 47∈lS y then [47] else [])),.str (mk (af 47 (lS y)))]):M D)=.ok (.tup [.str (mk (tp l)),.str (mk (if slh l then [47] else [])),.str (mk (bt l))]):=fun y hy=>by
   rw[hy]
   unfold tp bt slh
   by_cases h:47∈bd l
   ·rw[decide_eq_true h,if_pos h,if_pos rfl]
   ·rw[decide_eq_false h,if_neg h,if_neg (by decide)]
  cases hn:ng l with
  |true =>
   refine eif_t rfl ((ePart_ok (c:=47) (slX_from rfl hz) (by rw[<-sla_s];rfl) ?_).trans (e _ ?_))
   ·rw[el];exact mk_lt (by rw[List.length_drop];lia)
   ·rw[l_mk,el];unfold bd;rw[hn,if_pos rfl]
  |false =>
   refine eif_f rfl ((ePart_ok (c:=47) (z:=z) rfl (by rw[<-sla_s];rfl) hz).trans (e _ ?_))
   rw[el];unfold bd;rw[hn,if_neg (by decide)]
 refine go (Q7 s2) ?_
 refine go (Q7 (Z4 (a1 (Zm rfl rfl (ixT0 _ _))) (f_whole_word _ ht) rfl)) ?_
 rw[l_mk]
 have s4:eIf (DL.tB (eOp gEq (eOp gIx (Zc 2) (eC (.int 1))) (eC (.str (Str.ofString "/"))))) (Zt Qb (Zd (eOp gIx (Zc 2) (eC (.int 2))) Zh)) (eC (.int 1)) [some (S.im (.str z)),some (S.im (.bl (ng l))),some (S.im (.tup [.str (mk (tp l)),.str (mk (if slh l then [47] else [])),.str (mk (bt l))])),some (S.im (optI (whl (tp l)))),none,none]
   = .ok (optI (if slh l then whl (bt l) else some 1)):=by
  have t:DL.tB (eOp gEq (eOp gIx (Zc 2) (eC (.int 1))) (eC (.str (Str.ofString "/")))) [some (S.im (.str z)),some (S.im (.bl (ng l))),some (S.im (.tup [.str (mk (tp l)),.str (mk (if slh l then [47] else [])),.str (mk (bt l))])),some (S.im (optI (whl (tp l)))),none,none]=.ok (slh l):=by
   rw[Yu (Zm (Zm rfl rfl (ixT1 _ _ _)) rfl (gEqS _ _)),sla_s]
   congr 1
   cases slh l with
   |true=>exact decide_eq_true rfl
   |false=>exact decide_eq_false fun h=>by have:=mk_inj h;cases this
  cases hs:slh l with
  |true =>
   rw[hs] at t
   refine eif_t t (Z4 (a1 (Zm rfl rfl (ixT2 _ _ _ _))) (f_whole_word _ hb) ?_)
   rw[l_mk]
   rfl
  |false =>
   rw[hs] at t
   exact eif_f t rfl
 refine go (Q7 s4) ?_
 generalize eT:whl (tp l)=T
 generalize eB:(if slh l then whl (bt l) else some 1)=Bt
 have s5:DL.tO (DL.tB (eOp gIsN (Zc 3) (eC .non))) (DL.tO (DL.tB (eOp gIsN (Zc 4) (eC .non))) (DL.tB (eOp gEq (Zc 4) (eC (.int 0))))) [some (S.im (.str z)),some (S.im (.bl (ng l))),some (S.im (.tup [.str (mk (tp l)),.str (mk (if slh l then [47] else [])),.str (mk (bt l))])),some (S.im (optI T)),some (S.im (optI Bt)),none]
   = .ok (T.isNone||(Bt.isNone||decide (Bt=some 0))):=tO_b (Yu (Zm rfl rfl (isN_opt T))) (tO_b (Yu (Zm rfl rfl (isN_opt Bt))) (Yu (Zm rfl rfl (eq0 Bt))))
 have no:(T.isNone||(Bt.isNone||decide (Bt=some 0)))=true->Qd l=false:=fun h=>by
  unfold Qd
  cases T with
  |none =>
   have:Yc (tp l)=false:=by
    unfold whl at eT
    split at eT
    ·cases eT
    ·rename_i q
     simpa using q
   rw[this];rfl
  |some p =>
   cases hs:slh l with
   |false =>
    rw[hs,if_neg (by decide)] at eB
    subst eB
    cases h
   |true =>
    rw[hs,if_pos rfl] at eB
    unfold whl at eB
    split at eB
    ·subst eB
     have h:decide (some (digitsVal (bt l))=some 0)=true:=by simpa using h
     have h:digitsVal (bt l)=0:=by simpa using h
     rw[h]
     simp
    ·rename_i q
     have:Yc (bt l)=false:=by simpa using q
     rw[this]
     simp
 cases hx:(T.isNone||(Bt.isNone||decide (Bt=some 0))) with
 |true =>
  rw[no hx]
  rw[hx] at s5
  exact sSeq_rt (Yw s5 (Qf rfl))
 |false =>
  rw[hx] at s5
  refine go (Ym s5) ?_
  rw[Bool.or_eq_false_iff,Bool.or_eq_false_iff] at hx
  obtain⟨h1,h2,h3⟩:=hx
  cases T with
  |none=>cases h1
  |some p =>
  cases Bt with
  |none=>cases h2
  |some q =>
  have h3:q≠0:=fun z=>by rw[z] at h3;cases h3
  have cT:Yc (tp l)=true/\p=digitsVal (tp l):=by
   unfold whl at eT
   split at eT
   ·rename_i q;cases eT;exact⟨q,rfl⟩
   ·cases eT
  obtain⟨cT,rfl⟩:=cT
  have pl:=val_lt cT
  have ql:q<10 ^ 9:=by
   cases hs:slh l with
   |false=>rw[hs,if_neg (by decide)] at eB;cases eB;decide
   |true =>
    rw[hs,if_pos rfl] at eB
    unfold whl at eB
    split at eB
    ·rename_i w;cases eB;exact val_lt w
    ·cases eB
  have sgn:(sg (ng l) (digitsVal (tp l))).natAbs=digitsVal (tp l):=by unfold sg;split<;>simp
  have fr:Fr 9 (sg (ng l) (digitsVal (tp l))) (q:Int):=⟨by lia,by rw[sgn];exact Nat.le_of_lt pl,by rw[Int.natAbs_natCast];exact Nat.le_of_lt ql⟩
  obtain⟨P,Q,elow,fr2,ePQ,gPQ⟩:=low_fr fr
  have s6:eIf (DL.tB (Zc 1)) (eUn gNeg (Zc 3)) (Zc 3) [some (S.im (.str z)),some (S.im (.bl (ng l))),some (S.im (.tup [.str (mk (tp l)),.str (mk (if slh l then [47] else [])),.str (mk (bt l))])),some (S.im (optI (some (digitsVal (tp l))))),some (S.im (optI (some q))),none]=.ok (.int (sg (ng l) (digitsVal (tp l)))):=by
   cases ng l with
   |true=>exact eif_t rfl (un_ok rfl rfl)
   |false=>exact eif_f rfl rfl
  refine go (Q7 (Z4 (aC s6 (a1 rfl)) (f_amount fr (by decide)) rfl)) (Qf ?_)
  rw[elow]
  have bP:P.natAbs<10 ^ 10:=Nat.lt_of_le_of_lt fr2.top (by decide)
  have bQ:Q.natAbs<10 ^ 10:=Nat.lt_of_le_of_lt fr2.bot (by decide)
  have s7:DL.tB (eOp gEq (Zt Yj (Zd (Zc 5) Zh)) (Zc 0)) [some (S.im (.str z)),some (S.im (.bl (ng l))),some (S.im (.tup [.str (mk (tp l)),.str (mk (if slh l then [47] else [])),.str (mk (bt l))])),some (S.im (optI (some (digitsVal (tp l))))),some (S.im (optI (some q))),some (S.im (nD P Q))]=.ok (Qd l):=by
   rw[Yu (Zm (Z4 (a1 rfl) (f_show bP bQ) rfl) rfl (gEqS _ _))]
   congr 1
   have e0:(shw P Q=z)↔lS (shw P Q)=l:=⟨fun h=>by rw[h,el],fun h=>by rw[<-mk_l (shw P Q),h,<-el,mk_l]⟩
   rw[Bool.eq_iff_iff,decide_eq_true_eq,e0]
   unfold Qd
   rw[cT,Bool.true_and]
   cases hs:slh l with
   |false =>
    rw[hs,if_neg (by decide)] at eB
    cases eB
    have eP:P=sg (ng l) (digitsVal (tp l))/\Q=1:=frac_uniq fr2.pos (by decide) gPQ (by simp) ePQ
    have w:=word_is l
    rw[hs,if_neg (by decide)] at w
    rw[eP.1,eP.2]
    conv=>lhs;rhs;rw[w]
    rw[shw_one cT]
    cases ng l<;>simp
   |true =>
    rw[hs,if_pos rfl] at eB
    unfold whl at eB
    split at eB
    case isFalse=>cases eB
    rename_i cB
    cases eB
    have w:=word_is l
    rw[hs,if_pos rfl] at w
    have w:l=wrd (ng l) (tp l)++47::bt l:=by
     refine w.trans ?_
     unfold wrd
     cases ng l<;>simp
    conv=>lhs;rhs;rw[w]
    rw[shw_two cT cB h3 (ng l) fr2.pos ePQ gPQ,cB]
    cases ng l<;>simp[and_comm,and_left_comm,and_assoc]
  cases hN:Qd l with
  |false=>rw[hN] at s7;exact eif_f s7 rfl
  |true =>
   rw[hN] at s7
   refine eif_t s7 ?_
   show M.ok (nD P Q)=M.ok (Y6 l)
   congr 1
   unfold Y6
   unfold Qd at hN
   cases hs:slh l with
   |false =>
    rw[hs,if_neg (by decide)] at eB
    cases eB
    have eP:P=sg (ng l) (digitsVal (tp l))/\Q=1:=frac_uniq fr2.pos (by decide) gPQ (by simp) ePQ
    rw[eP.1,eP.2]
    rfl
   |true =>
    rw[hs,if_pos rfl] at eB
    unfold whl at eB
    split at eB
    case isFalse=>cases eB
    cases eB
    rw[hs,cT] at hN
    have g:Nat.gcd (digitsVal (tp l)) (digitsVal (bt l))=1:=by
     simp at hN
     exact hN.2.2.2
    have gs:Int.gcd (sg (ng l) (digitsVal (tp l))) ((digitsVal (bt l):Nat):Int)=1:=by
     unfold sg
     cases ng l<;>simpa[Int.gcd] using g
    have eP:=frac_uniq fr2.pos (show(0:Int)<(digitsVal (bt l):Nat) by lia) gPQ gs ePQ
    rw[eP.1,eP.2]
    rfl
end Law
set_option maxRecDepth 100000
set_option maxHeartbeats 4000000
set_option linter.all false
namespace Law
open PySem L2 DL PySem.Builtin PySem.Builtin.Str PySem.StrLaws PySem.NumText
theorem emp_s:Str.ofString "" = mk []:=by decide +kernel
theorem slX_to {f:DSt->M D}{sd:DSt}{z:Str}(h:f sd=.ok (.str z))(hz:z.length<=1000000):eSlX f Qh (Qi (eC (.int 1))) sd=.ok (.str (mk ((lS z).take 1))):=by
 unfold eSlX
 rw[h,M.bind_ok]
 show(M.ok none).bind _=_
 rw[M.bind_ok]
 show(M.ok (some (1:Int))).bind _=_
 rw[M.bind_ok]
 show(if z.length<=sizeLine then _ else _)=_
 rw[if_pos (size1 hz),sl_to1]
theorem ixL0 (a:D)(r:List D):gIx (.lst (a::r)) (.int 0)=.ok a:=by
 show(match atI (a::r) 0 with|some d=>M.ok d|none=>.bad)=_
 rw[atI0]
theorem ixL1 (a b:D)(r:List D):gIx (.lst (a::b::r)) (.int 1)=.ok b:=by
 show(match atI (a::b::r) 1 with|some d=>M.ok d|none=>.bad)=_
 rw[atI1]
theorem mk_eq {a b:List Nat}:mk a=mk b↔a=b:=⟨mk_inj,fun h=>by rw[h]⟩
def lawN (l:List Nat):Bool:=!(ng l&&decide (tp l=[48]))&&((Zl 47 (bd l)).all Yc&&(match Zl 47 (bd l) with
 |[_]=>true
 |[a,b]=>decide (1<digitsVal b)&&decide (Nat.gcd (digitsVal a) (digitsVal b)=1)
 |_=>false))
theorem canW_zero {t:List Nat}(h:Yc t=true):digitsVal t=0↔t=[48]:=by
 constructor
 ·intro e
  have:=dg_back h
  rw[e] at this
  rw[<-this]
  decide
 ·intro e;rw[e];decide
theorem canW47 {t:List Nat}(h:Yc t=true):47 ∉ t:=no47 fun c hc=>List.all_eq_true.mp (canW_of h).2.2.1 c hc
theorem lawN_eq (l:List Nat):lawN l=Qd l:=by
 unfold lawN Qd
 by_cases h:47∈bd l
 ·have hs:slh l=true:=decide_eq_true h
  have e:Zl 47 (bd l)=tp l::Zl 47 (bt l):=Qw h
  rw[e,hs]
  by_cases ht:Yc (tp l)=true
  ·have z0:=canW_zero ht
   have zz:decide (tp l=[48])=decide (digitsVal (tp l)=0):=by rw[Bool.eq_iff_iff];simp[z0]
   rw[zz,List.all_cons,ht]
   by_cases hb:47∈bt l
   ·have cb:Yc (bt l)=false:=by
     cases q:Yc (bt l) with
     |false=>rfl
     |true=>exact absurd hb (canW47 q)
    rw[Qw hb,cb]
    cases ee:Zl 47 (af 47 (bt l)) with
    |nil=>exact absurd ee (Yb _ _)
    |cons x y=>simp
   ·rw[Qv hb]
    simp
  ·have ht:Yc (tp l)=false:=by simpa using ht
   rw[List.all_cons,ht]
   simp
 ·have hs:slh l=false:=decide_eq_false h
  have e:Zl 47 (bd l)=[tp l]:=by
   rw[Qv h]
   congr 1
   exact(tw_none h).1.symm
  rw[e,hs]
  by_cases ht:Yc (tp l)=true
  ·have z0:=canW_zero ht
   have zz:decide (tp l=[48])=decide (digitsVal (tp l)=0):=by rw[Bool.eq_iff_iff];simp[z0]
   rw[zz]
   simp[ht]
  ·have ht:Yc (tp l)=false:=by simpa using ht
   simp[ht]
noncomputable def inBody:DSt->M O:=(Zw (sIf (DL.tO (DL.tB (eOp gEq (Zc 2) (eC (.str (Str.ofString ""))))) (DL.tO (DL.tB (eOp gGt (eCB Ys (Zd (Zc 2) Zh)) (eC (.int 9)))) (DL.tN (DL.tB (eCB bAll (Zd (eNew (Xf (iStr (Zc 2)) 1 [] (gNm 0) (eOp gInX (Zc 0) (eC (.str (Str.ofString "0123456789")))))) Zh)))))) (Qq (eC (.bl false))) Yz)
   (sIf (DL.tA (DL.tB (eOp gGt (eCB Ys (Zd (Zc 2) Zh)) (eC (.int 1)))) (DL.tB (eOp gEq (eOp gIx (Zc 2) (eC (.int 0))) (eC (.str (Str.ofString "0")))))) (Qq (eC (.bl false))) Yz))
theorem all_figs2 {z:Str}(hz:z.length<=1000000){sd:DSt}(h:sd[2]?=some (some (.im (.str z)))) :
  eCB bAll (Zd (eNew (Xf (iStr (Zc 2)) 1 [] (gNm 0) (eOp gInX (Zc 0) (eC (.str (Str.ofString "0123456789")))))) Zh) sd=.ok (.bl ((lS z).all dig)):=by
 have hv:Zc 2 sd=.ok (.str z):=by unfold Zc;rw[h]
 have e1:Xf (iStr (Zc 2)) 1 [] (gNm 0) (eOp gInX (Zc 0) (eC (.str (Str.ofString "0123456789")))) sd=.ok ((lS z).map fun c=>D.bl (dig c)):=by
  unfold Xf iStr
  rw[hv,M.bind_ok]
  dsimp only
  rw[M.bind_ok,few_of (by have:=Qn z;unfold lS at this;simp;unfold Str.length at hz;exact hz),if_pos rfl]
  rw[mapD_ok (φ:=fun d=>match d with | .str ⟨#[c]⟩=>.bl (dig c)|d=>d) (fun d hd=>?_)]
  ·rw[List.map_map];rfl
  ·obtain⟨c,_,rfl⟩:=List.mem_map.mp hd
   exact⟨_,rfl,Zm (x:=.str ⟨#[c]⟩) (y:=.str (Str.ofString "0123456789")) rfl rfl (inX_fig c)⟩
 refine cb_ok (a1 (show eNew _ sd=_ from ?_)) (r:=.ok (.bl ((lS z).all dig))) (ds:=[.lst ((lS z).map fun c=>D.bl (dig c))]) ?_
 ·unfold eNew;rw[e1];rfl
 ·unfold bAll
  dsimp only
  rw[bools_map]
  simp
theorem in_turn (a b:Option S){p:List Nat}(hp:p.length<=1000000):inBody [a,b,some (.im (.str (mk p)))]=if Yc p then .ok (.nx [a,b,some (.im (.str (mk p)))]) else .ok (.rt (.im (.bl false))):=by
 have hz:(mk p).length<=1000000:=mk_lt hp
 have t1:DL.tO (DL.tB (eOp gEq (Zc 2) (eC (.str (Str.ofString ""))))) (DL.tO (DL.tB (eOp gGt (eCB Ys (Zd (Zc 2) Zh)) (eC (.int 9)))) (DL.tN (DL.tB (eCB bAll (Zd (eNew (Xf (iStr (Zc 2)) 1 [] (gNm 0) (eOp gInX (Zc 0) (eC (.str (Str.ofString "0123456789")))))) Zh))))) [a,b,some (.im (.str (mk p)))]=.ok (badW p):=by
  unfold badW
  refine tO_b (Yu (Zm rfl rfl ?_)) (tO_b (Yu (Zm (len_ok hz rfl) rfl ?_)) (tN_b (Yu ((all_figs2 hz rfl).trans (by rw[l_mk])))))
  ·rw[gEqS,emp_s];congr 2;rw[Bool.eq_iff_iff];simp[mk_eq]
  ·rw[gGtI,l_mk];congr 2;rw[Bool.eq_iff_iff];simp;lia
 unfold inBody
 rcases whl_cases p with⟨h1,h2⟩|⟨h1,h2,h3,h4,c,r,e,h5⟩
 ·rw[h1] at t1
  rw[h2,if_neg (by decide)]
  exact sSeq_rt (Yw t1 (Qf rfl))
 ·rw[h1] at t1
  refine go (Ym t1) ?_
  have t2:DL.tA (DL.tB (eOp gGt (eCB Ys (Zd (Zc 2) Zh)) (eC (.int 1)))) (DL.tB (eOp gEq (eOp gIx (Zc 2) (eC (.int 0))) (eC (.str (Str.ofString "0"))))) [a,b,some (.im (.str (mk p)))]=.ok (decide (r≠[]/\c=48)):=by
   rw[tA_b (Yu (Zm (len_ok hz rfl) rfl (gGtI _ _))) (Yu (Zm (Zm rfl rfl (ix0 (by rw[l_mk];exact e) hz)) rfl (gEqS _ _))),zero_s]
   congr 1
   rw[Bool.eq_iff_iff,l_mk,e]
   cases r<;>simp[mk_eq]
   lia
  rw[h5]
  by_cases hc:r≠[]/\c=48
  ·rw[decide_eq_true hc] at t2
   rw[decide_eq_true hc,if_neg (by decide)]
   exact Yw t2 (Qf rfl)
  ·rw[decide_eq_false hc] at t2
   rw[decide_eq_false hc,if_pos (by decide)]
   exact Ym t2
theorem in_loop (a b:Option S):∀(ps:List (List Nat)) (c:Option S),(∀p∈ps,p.length<=1000000)->∃c',loopD (gNm 2) inBody (ps.map fun p=>D.str (mk p)) [a,b,c]=if ps.all Yc then .ok (.nx [a,b,c']) else .ok (.rt (.im (.bl false)))
 |[],c,_=>⟨c,rfl⟩
 |p::r,c,h=>by
  have t:=in_turn a b (p:=p) (h p (by simp))
  obtain⟨c',ih⟩:=in_loop a b r (some (.im (.str (mk p)))) fun q hq=>h q (by simp[hq])
  refine⟨c',?_⟩
  rw[List.map_cons,List.all_cons]
  cases hc:Yc p with
  |false =>
   rw[hc,if_neg (by decide)] at t
   rw[Bool.false_and,if_neg (by decide)]
   show(inBody [a,b,some (.im (.str (mk p)))]).bind _=_
   rw[t]
   rfl
  |true =>
   rw[hc,if_pos rfl] at t
   rw[Bool.true_and,<-ih]
   show(inBody [a,b,some (.im (.str (mk p)))]).bind _=_
   rw[t]
   rfl
end Law
set_option maxRecDepth 100000
set_option maxHeartbeats 4000000
set_option linter.all false
namespace Law
open PySem L2 DL PySem.Builtin PySem.Builtin.Str PySem.StrLaws PySem.NumText
theorem split_bd (l:List Nat):∃h t,Zl 47 l=wrd (ng l) h::t/\Zl 47 (bd l)=h::t/\decide ((wrd (ng l) h).take 1=[45])=ng l:=by
 cases l with
 |nil=>exact⟨[],[],rfl,rfl,rfl⟩
 |cons a r =>
  by_cases ha:a=45
  ·subst ha
   have e:ng (45::r)=true:=rfl
   have eb:bd (45::r)=r:=rfl
   cases q:Zl 47 r with
   |nil=>exact absurd q (Yb _ _)
   |cons h t =>
    refine⟨h,t,?_,by rw[eb];exact q,by rw[e];rfl⟩
    rw[Zl,if_neg (by decide),q,e]
    rfl
  ·have e:ng (a::r)=false:=decide_eq_false (by simpa using ha)
   have eb:bd (a::r)=a::r:=by unfold bd;rw[e,if_neg (by decide)]
   rw[eb,e]
   cases q:Zl 47 (a::r) with
   |nil=>exact absurd q (Yb _ _)
   |cons h t =>
    refine⟨h,t,rfl,rfl,?_⟩
    rw[Zl] at q
    show decide (h.take 1=[45])=false
    apply decide_eq_false
    split at q
    ·cases q;simp
    ·cases q2:Zl 47 r with
     |nil=>exact absurd q2 (Yb _ _)
     |cons h2 t2 =>
      rw[q2] at q
      cases q
      simpa[hd1] using ha
theorem head_tp {l h:List Nat}{t:List (List Nat)}(e:Zl 47 (bd l)=h::t):h=tp l:=by
 by_cases q:47∈bd l
 ·rw[Qw q] at e;cases e;rfl
 ·rw[Qv q] at e
  cases e
  exact(tw_none q).1.symm
theorem int_ok {p:List Nat}(h:Yc p=true):bIntX [.str (mk p)]=.ok (.int ((digitsVal p:Nat):Int)):=by
 obtain⟨h1,h2,h3,_⟩:=canW_of h
 have:=intX_ok (z:=mk p) (by rw[l_mk];exact h3) (by rw[l_mk];exact h1) (by rw[mk_len];lia)
 rw[l_mk] at this
 exact this
theorem lenL_ok {ds:List D}{f:DSt->M D}{sd:DSt}(h:f sd=.ok (.lst ds))(hl:ds.length<=1000000):eCB Ys (Zd f Zh) sd=.ok (.int (ds.length:Int)):=by
 refine cb_ok (a1 h) ?_
 rfl
noncomputable def inTail:DSt->M O:=(Zw (sFor (iSeq (Zc 1)) (gNm 2) inBody)
   (Zw (sIf (DL.tB (eOp gEq (eCB Ys (Zd (Zc 1) Zh)) (eC (.int 1)))) (Qq (eC (.bl true))) Yz)
   (Qq (eAnd (eOp gEq (eCB Ys (Zd (Zc 1) Zh)) (eC (.int 2))) (eAnd (eOp gGt (eCB bIntX (Zd (eOp gIx (Zc 1) (eC (.int 1))) Zh)) (eC (.int 1))) (eOp gEq (Zt Y2 (Zd (eCB bIntX (Zd (eOp gIx (Zc 1) (eC (.int 0))) Zh)) (Zd (eCB bIntX (Zd (eOp gIx (Zc 1) (eC (.int 1))) Zh)) Zh))) (eC (.int 1))))))))
def lastN (ps:List (List Nat)):Bool:=match ps with
 |[_]=>true
 |[a,b]=>decide (1<digitsVal b)&&decide (Nat.gcd (digitsVal a) (digitsVal b)=1)
 |_=>false
theorem in_tail (x:Option S){ps:List (List Nat)}(hps:ps≠[])(lens:∀p∈ps,p.length<=1000000)(hc:ps.length<=1000000)(c:Option S) :
  inTail [x,some (S.im (.lst (ps.map fun p=>D.str (mk p)))),c]=.ok (.rt (.im (.bl (ps.all Yc&&lastN ps)))):=by
 obtain⟨c',e⟩:=in_loop x (some (S.im (.lst (ps.map fun p=>D.str (mk p))))) ps c lens
 have f:sFor (iSeq (Zc 1)) (gNm 2) inBody [x,some (S.im (.lst (ps.map fun p=>D.str (mk p)))),c]=if ps.all Yc then .ok (.nx [x,some (S.im (.lst (ps.map fun p=>D.str (mk p)))),c']) else .ok (.rt (.im (.bl false))):=(sFor_ok (seq_l rfl)).trans e
 unfold inTail
 cases ha:ps.all Yc with
 |false =>
  rw[ha,if_neg (by decide)] at f
  exact sSeq_rt f
 |true =>
  rw[ha,if_pos rfl] at f
  refine go f ?_
  rw[Bool.true_and]
  have lk:eCB Ys (Zd (Zc 1) Zh) [x,some (S.im (.lst (ps.map fun p=>D.str (mk p)))),c']=.ok (.int (ps.length:Int)):=by
   have:=lenL_ok (f:=Zc 1) (sd:=[x,some (S.im (.lst (ps.map fun p=>D.str (mk p)))),c']) (ds:=ps.map fun p=>D.str (mk p)) rfl (by rw[List.length_map];exact hc)
   rw[List.length_map] at this
   exact this
  have t1:=Yu (Zm (g:=gEq) lk (rfl:eC (.int 1) _=.ok (.int 1)) (gEqI _ _))
  match ps,hps,ha,lk,t1 with
  |[a],_,ha,lk,t1 =>
   rw[decide_eq_true (by simp)] at t1
   exact sSeq_rt (Yw t1 (Qf rfl))
  |[a,b],_,ha,lk,t1 =>
   rw[decide_eq_false (by simp)] at t1
   refine go (Ym t1) (Qf ?_)
   have ca:Yc a=true:=by simpa using List.all_eq_true.mp ha a (by simp)
   have cb:Yc b=true:=by simpa using List.all_eq_true.mp ha b (by simp)
   have i0:eCB bIntX (Zd (eOp gIx (Zc 1) (eC (.int 0))) Zh) [x,some (S.im (.lst ([a,b].map fun p=>D.str (mk p)))),c']=.ok (.int ((digitsVal a:Nat):Int)):=cb_ok (a1 (Zm rfl rfl (ixL0 _ _))) (int_ok ca)
   have i1:eCB bIntX (Zd (eOp gIx (Zc 1) (eC (.int 1))) Zh) [x,some (S.im (.lst ([a,b].map fun p=>D.str (mk p)))),c']=.ok (.int ((digitsVal b:Nat):Int)):=cb_ok (a1 (Zm rfl rfl (ixL1 _ _ _))) (int_ok cb)
   refine and_ok (Zm lk rfl ?_) ?_
   ·rw[gEqI];rfl
   ·rw[and_bb (Zm i1 rfl (gGtI _ _)) (Zm (Z4 (aC i0 (a1 i1)) (f_lc _ _) rfl) rfl (gEqI _ _))]
    unfold lastN
    congr 3
    ·rw[Bool.eq_iff_iff];simp;lia
    ·rw[Bool.eq_iff_iff];simp[Int.gcd];lia
  |a::b::d::r,_,ha,lk,t1 =>
   rw[decide_eq_false (by simp;lia)] at t1
   refine go (Ym t1) (Qf ?_)
   refine and_f (Zm lk rfl ?_)
   rw[gEqI,decide_eq_false (by simp;lia)]
theorem f_is_number (z:Str)(hz:z.length<=900000):Qu [.str z]=.ok (.im (.bl (Qd (lS z)))):=by
 rw[<-lawN_eq]
 have hl:(lS z).length<=900000:=by rw[<-Qn];exact hz
 generalize el:lS z=l at *
 obtain⟨h,t,e1,e2,e3⟩:=split_bd l
 have eh:=head_tp e2
 subst eh
 have lens:∀p∈Zl 47 (bd l),p.length<=1000000:=fun p hp=>Nat.le_trans (Y3 hp) (Nat.le_trans (bd_len l) (by lia))
 have cnt:(Zl 47 l).length<=900001:=Nat.le_trans (splitL_len 47 l) (by lia)
 unfold Qu
 rw[fn1]
 refine Q0 ?_
 have s1:fSplit (Zc 0) (eC (.str (Str.ofString "/"))) ([some (S.im (.str z))]++List.replicate 2 none)=.ok (D.str (mk (wrd (ng l) (tp l)))::t.map fun p=>D.str (mk p)):=by
  show(if _ then _ else _)=_
  rw[sla_s,split_eq z 47 (by decide),if_pos ⟨rfl,size1 (by lia),by rw[List.length_map,el,PySem.sizeLine_eq];lia⟩,el,e1,List.map_map]
  rfl
 refine go (own_ok s1) ?_
 have hw:(wrd (ng l) (tp l)).length<=1000000:=by
  have:=Y3 (c:=47) (l:=l) (p:=wrd (ng l) (tp l)) (by rw[e1];simp)
  lia
 have v:tView 1 (DL.tB (eOp gEq (eSlX (eOp gIx (Zc 1) (eC (.int 0))) Qh (Qi (eC (.int 1)))) (eC (.str (Str.ofString "-"))))) [some (S.im (.str z)),some (S.ow (D.str (mk (wrd (ng l) (tp l)))::t.map fun p=>D.str (mk p))),none]=.ok (ng l):=by
  unfold tView
  show(match DL.tB _ [some (S.im (.str z)),some (S.im (.lst (D.str (mk (wrd (ng l) (tp l)))::t.map fun p=>D.str (mk p)))),none] with | .ok b=>_|_=>_)=_
  rw[Yu (Zm (slX_to (Zm rfl rfl (ixL0 _ _)) (mk_lt hw)) rfl (gEqS _ _)),min_s,l_mk]
  show M.ok (decide _)=_
  congr 1
  refine Eq.trans ?_ e3
  rw[Bool.eq_iff_iff]
  simp[mk_eq]
 have fin:∀c,sFrz 1 inTail [some (S.im (.str z)),some (S.ow ((Zl 47 (bd l)).map fun p=>D.str (mk p))),c]=.ok (.rt (.im (.bl ((Zl 47 (bd l)).all Yc&&lastN (Zl 47 (bd l))))))/\sFrz 1 inTail [some (S.im (.str z)),some (S.im (.lst ((Zl 47 (bd l)).map fun p=>D.str (mk p)))),c]=.ok (.rt (.im (.bl ((Zl 47 (bd l)).all Yc&&lastN (Zl 47 (bd l)))))):=fun c=>by
  have:=in_tail (some (S.im (.str z))) (Yb 47 (bd l)) lens (Nat.le_trans (splitL_len 47 (bd l)) (by have:=bd_len l;lia)) c
  exact⟨this,this⟩
 have eN:lawN l=(!(ng l&&decide (tp l=[48]))&&((Zl 47 (bd l)).all Yc&&lastN (Zl 47 (bd l)))):=rfl
 rw[eN]
 cases hn:ng l with
 |false =>
  rw[hn] at v
  refine go (Ym v) ?_
  have:=(fin none).1
  rw[e2] at this ⊢
  rw[Bool.false_and,Bool.not_false,Bool.true_and]
  exact this
 |true =>
  rw[hn] at v
  have p1:sLPut 1 (eC (.int 0)) (eSlX (eOIx 1 (eC (.int 0))) (Qi (eC (.int 1))) Qh) [some (S.im (.str z)),some (S.ow (D.str (mk (wrd true (tp l)))::t.map fun p=>D.str (mk p))),none]=.ok (.nx [some (S.im (.str z)),some (S.ow ((Zl 47 (bd l)).map fun p=>D.str (mk p))),none]):=by
   have o0:eOIx 1 (eC (.int 0)) [some (S.im (.str z)),some (S.ow (D.str (mk (wrd true (tp l)))::t.map fun p=>D.str (mk p))),none]=.ok (.str (mk (wrd true (tp l)))):=by
    show(match atI (D.str (mk (wrd true (tp l)))::t.map fun p=>D.str (mk p)) 0 with|some d=>M.ok d|none=>.bad)=_
    rw[atI0]
   have hw':(mk (wrd true (tp l))).length<=1000000:=by rw[<-hn];exact mk_lt hw
   have:=lput_ok (i:=1) (fk:=eC (.int 0)) (k:=0) (sd:=[some (S.im (.str z)),some (S.ow (D.str (mk (wrd true (tp l)))::t.map fun p=>D.str (mk p))),none]) rfl (slX_from o0 hw') rfl (by simp)
   rw[this,e2,l_mk]
   rfl
  have q0:DL.tB (eOp gEq (eOp gIx (Zc 1) (eC (.int 0))) (eC (.str (Str.ofString "0")))) [some (S.im (.str z)),some (S.im (.lst ((Zl 47 (bd l)).map fun p=>D.str (mk p)))),none]=.ok (decide (tp l=[48])):=by
   rw[e2]
   rw[Yu (Zm (Zm rfl rfl (ixL0 _ _)) rfl (gEqS _ _)),zero_s]
   congr 1
   rw[Bool.eq_iff_iff]
   simp[mk_eq]
  by_cases h0:tp l=[48]
  ·rw[decide_eq_true h0] at q0 ⊢
   refine sSeq_rt (Yw v (go p1 ?_))
   exact Yw q0 (Qf rfl)
  ·rw[decide_eq_false h0] at q0 ⊢
   refine go (Yw v (go p1 ?_)) ((fin none).2.trans ?_)
   ·exact Ym q0
   ·rw[Bool.and_false,Bool.not_false,Bool.true_and]
end Law
set_option maxRecDepth 1000000
set_option maxHeartbeats 4000000
set_option linter.all false
namespace Law
open PySem L2 DL PySem.Builtin PySem.Builtin.Str PySem.StrLaws PySem.NumText
def btw (a b n:Int):Bool:=!decide (b=1)&&(decide (0*b<a*1)&&decide (a*1<n*b))
theorem f_between {a b n:Int}(h:Fr 9 a b)(hn:Fr 9 n 1):Qj [nD a b,.int n]=.ok (.im (.bl (btw a b n))):=by
 unfold Qj
 rw[fn2]
 refine Q0 (Qf ?_)
 have f0:Fr 9 0 1:=⟨by decide,by decide,by decide⟩
 have e1:eOp gNe (eOp gIx (Zc 0) (eC (.int 1))) (eC (.int 1)) ([some (S.im (nD a b)),some (S.im (.int n))]++List.replicate 0 none)=.ok (.bl (!decide (b=1))):=Zm (Zm rfl rfl (ixT1 _ _ _)) rfl (gNeI _ _)
 have e2:Zt F_below (Zd (eTup (Zd (eC (.int 0)) (Zd (eC (.int 1)) Zh))) (Zd (Zc 0) Zh)) ([some (S.im (nD a b)),some (S.im (.int n))]++List.replicate 0 none)=.ok (.bl (decide (0*b<a*1))):=Z4 (aC (tup2 rfl rfl) (a1 rfl)) (f_below f0 h (by decide)) rfl
 have e3:Zt F_below (Zd (Zc 0) (Zd (eTup (Zd (Zc 1) (Zd (eC (.int 1)) Zh))) Zh)) ([some (S.im (nD a b)),some (S.im (.int n))]++List.replicate 0 none)=.ok (.bl (decide (a*1<n*b))):=Z4 (aC rfl (a1 (tup2 rfl rfl))) (f_below h hn (by decide)) rfl
 exact and_bb e1 (and_bb e2 e3)
def hall3 (d:D):Bool:=match gIx d (.int 0),gIx d (.int 1) with
 |.ok (.int a),.ok (.int b)=>decide (a=3)&&decide (b=2)
 |_,_=>false
theorem hall_ix {d:D}(h:hall3 d=true):gIx d (.int 0)=.ok (.int 3)/\gIx d (.int 1)=.ok (.int 2):=by
 unfold hall3 at h
 split at h
 ·rename_i a b e1 e2
  rw[Bool.and_eq_true,decide_eq_true_eq,decide_eq_true_eq] at h
  rw[e1,e2,h.1,h.2]
  exact⟨rfl,rfl⟩
 ·cases h
theorem f_may {h:D}(hh:hall3 h=true){a b c d:Int}(f1:Fr 9 a b)(f2:Fr 9 c d):Ye [h,.tup [nD a b,nD c d]]=.ok (.im (.bl (btw a b 3&&btw c d 2))):=by
 obtain⟨e1,e2⟩:=hall_ix hh
 unfold Ye
 rw[fn2]
 refine Q0 (Qf (and_bb (Z4 (aC (Zm rfl rfl (ixT0 _ _)) (a1 (Zm rfl rfl e1))) (f_between f1 ⟨by decide,by decide,by decide⟩) rfl) (Z4 (aC (Zm rfl rfl (ixT1 _ _ _)) (a1 (Zm rfl rfl e2))) (f_between f2 ⟨by decide,by decide,by decide⟩) rfl)))
def topI (l:List Nat):Int:=sg (ng l) (digitsVal (tp l))
def botI (l:List Nat):Int:=if slh l then(digitsVal (bt l):Nat) else 1
theorem numD_eq (l:List Nat):Y6 l=nD (topI l) (botI l):=rfl
theorem num_parts {l:List Nat}(h:Qd l=true):Yc (tp l)=true/\¬(ng l=true/\digitsVal (tp l)=0)/\(slh l=true->Yc (bt l)=true/\1<digitsVal (bt l)/\Nat.gcd (digitsVal (tp l)) (digitsVal (bt l))=1):=by
 unfold Qd at h
 rw[Bool.and_eq_true,Bool.and_eq_true] at h
 obtain⟨h1,h2,h3⟩:=h
 refine⟨h1,?_,fun hs=>?_⟩
 ·rintro⟨z1,z2⟩
  rw[z1,decide_eq_true z2] at h2
  cases h2
 ·rw[hs] at h3
  simpa using h3
theorem num_fr {l:List Nat}(h:Qd l=true):Fr 9 (topI l) (botI l):=by
 obtain⟨h1,h2,h3⟩:=num_parts h
 have p:=val_lt h1
 have e:(topI l).natAbs=digitsVal (tp l):=by unfold topI sg;split<;>simp
 refine⟨?_,by rw[e];exact Nat.le_of_lt p,?_⟩
 ·unfold botI
  cases hs:slh l with
  |true=>rw[if_pos rfl];have:=(h3 hs).2.1;lia
  |false=>rw[if_neg (by decide)];decide
 ·unfold botI
  cases hs:slh l with
  |true=>rw[if_pos rfl,Int.natAbs_natCast];exact Nat.le_of_lt (val_lt (h3 hs).1)
  |false=>rw[if_neg (by decide)];decide
theorem mem_bd (l:List Nat):47∈l↔47∈bd l:=by
 have w:l=wrd (ng l) (bd l):=by
  have:=word_is l
  unfold bd wrd ng
  cases l with
  |nil=>rfl
  |cons a r =>
   by_cases h:a=45
   ·subst h;simp
   ·simp[h]
 constructor
 ·intro h
  rw[w] at h
  unfold wrd at h
  split at h
  ·rcases List.mem_cons.mp h with z|z
   ·cases z
   ·exact z
  ·exact h
 ·intro h
  rw[w]
  unfold wrd
  split
  ·exact List.mem_cons_of_mem _ h
  ·exact h
theorem num_ne {l:List Nat}(h:Qd l=true):∃a r,l=a::r:=by
 cases l with
 |nil=>exact absurd h (by decide)
 |cons a r=>exact⟨a,r,rfl⟩
theorem ninX (z:Str)(c:Nat):gNinX (.str (mk [c])) (.str z)=.ok (.bl (!decide (c∈lS z))):=by
 show M.ok (D.bl (!(!(occurrences z ⟨#[c]⟩ 0 z.length 1).isEmpty)))=_
 rw[found_one]
 rfl
theorem eSplit_ok {f g:DSt->M D}{sd:DSt}{z:Str}{c:Nat}(h1:f sd=.ok (.str z))(h2:g sd=.ok (.str (mk [c])))(hz:z.length<=900000)(hc:c<256):Xa f g sd=.ok (.lst ((Zl c (lS z)).map fun p=>D.str (mk p))):=by
 unfold Xa
 rw[h1,M.bind_ok]
 dsimp only
 rw[h2,M.bind_ok]
 dsimp only
 rw[split_eq z c hc,if_pos ⟨rfl,size1 (by lia),by
  have:=splitL_len c (lS z)
  rw[<-Qn] at this
  rw[List.length_map,PySem.sizeLine_eq]
  lia⟩,List.map_map]
 rfl
theorem comp_seq {f:DSt->M D}{gt:D->DSt->M DSt}{fe:DSt->M D}{sd:DSt}{caps:List Nat}{ds:List D}(φ:D->D)(h:f sd=.ok (.lst ds))(hl:ds.length<=1000000)(hm:∀d∈ds,∃sd1,gt d (sdC 1 caps sd)=.ok sd1/\fe sd1=.ok (φ d)) :
  eNew (Xf (iSeq f) 1 caps gt fe) sd=.ok (.lst (ds.map φ)):=by
 unfold eNew Xf iSeq
 rw[h,M.bind_ok]
 dsimp only
 rw[M.bind_ok,few_of hl,if_pos rfl,mapD_ok φ hm]
 rfl
theorem stands_eq {l:List Nat}(h:Qd l=true)(n:Nat):(slh l&&(!ng l&&decide (digitsVal (tp l)<n*digitsVal (bt l))))=btw (topI l) (botI l) (n:Int):=by
 obtain⟨h1,h2,h3⟩:=num_parts h
 unfold btw topI botI
 cases hs:slh l with
 |false=>simp
 |true =>
  obtain⟨c1,c2,c3⟩:=h3 hs
  rw[if_pos rfl]
  cases hn:ng l with
  |true =>
   unfold sg
   rw[Bool.eq_iff_iff]
   simp
   lia
  |false =>
   have p0:0<digitsVal (tp l):=Nat.pos_of_ne_zero fun z=>by
    rw[z,Nat.gcd_zero_left] at c3
    lia
   unfold sg
   rw[Bool.eq_iff_iff]
   simp
   constructor
   ·intro q
    refine⟨by lia,p0,?_⟩
    exact_mod_cast q
   ·intro q
    exact_mod_cast q.2.2
theorem f_stands {z:Str}(hz:z.length<=900000)(h:Qd (lS z)=true){n:Nat}(hn:n<=3):Yp [.str z,.int (n:Int)]=.ok (.im (.bl (btw (topI (lS z)) (botI (lS z)) (n:Int)))):=by
 rw[<-stands_eq h]
 obtain⟨h1,h2,h3⟩:=num_parts h
 generalize el:lS z=l at *
 obtain⟨a,r,ea⟩:=num_ne h
 unfold Yp
 rw[fn2]
 refine Q0 ?_
 have t1:DL.tO (DL.tB (eOp gNinX (eC (.str (Str.ofString "/"))) (Zc 0))) (DL.tB (eOp gEq (eOp gIx (Zc 0) (eC (.int 0))) (eC (.str (Str.ofString "-"))))) ([some (S.im (.str z)),some (S.im (.int (n:Int)))]++List.replicate 2 none)=.ok (!slh l||ng l):=by
  refine tO_b (Yu (Zm rfl rfl ?_)) (Yu (Zm (Zm rfl rfl (ix0 (el.trans ea) (by lia))) rfl ?_))
  ·rw[sla_s,ninX,el]
   congr 3
   rw[Bool.eq_iff_iff]
   unfold slh
   simp[mem_bd l]
  ·rw[gEqS,min_s]
   congr 2
   rw[Bool.eq_iff_iff,ea]
   unfold ng
   simp[mk_eq]
 cases hs:slh l with
 |false =>
  rw[hs] at t1
  exact sSeq_rt (Yw t1 (Qf rfl))
 |true =>
 cases hg:ng l with
 |true =>
  rw[hs,hg] at t1
  exact sSeq_rt (Yw t1 (Qf rfl))
 |false =>
  rw[hs,hg] at t1
  refine go (Ym t1) ?_
  obtain⟨c1,c2,c3⟩:=h3 hs
  have hb:bd l=l:=by unfold bd;rw[hg,if_neg (by decide)]
  have mem:47∈l:=(mem_bd l).mpr (of_decide_eq_true hs)
  have sp:Zl 47 l=[tp l,bt l]:=by
   have:47 ∉ bt l:=canW47 c1
   unfold tp bt at *
   rw[hb] at *
   rw[Qw mem,Qv this]
  have s2:eNew (Xf (iSeq (Xa (Zc 0) (eC (.str (Str.ofString "/"))))) 1 [] (gNm 0) (eCB bIntX (Zd (Zc 0) Zh))) ([some (S.im (.str z)),some (S.im (.int (n:Int)))]++List.replicate 2 none)=.ok (.lst [.int ((digitsVal (tp l):Nat):Int),.int ((digitsVal (bt l):Nat):Int)]):=by
   have sx:Xa (Zc 0) (eC (.str (Str.ofString "/"))) ([some (S.im (.str z)),some (S.im (.int (n:Int)))]++List.replicate 2 none)=.ok (.lst [.str (mk (tp l)),.str (mk (bt l))]):=by
    rw[eSplit_ok (z:=z) (c:=47) rfl (by rw[<-sla_s];rfl) hz (by decide),el,sp]
    rfl
   refine comp_seq (fun d=>match d with | .str y=>.int ((digitsVal (lS y):Nat):Int)|d=>d) sx (by simp) (fun d hd=>?_) |>.trans ?_
   ·rcases List.mem_cons.mp hd with rfl|hd
    ·exact⟨_,rfl,cb_ok (a1 rfl) ((int_ok h1).trans (by dsimp only;rw[l_mk]))⟩
    ·rw[List.mem_singleton] at hd
     subst hd
     exact⟨_,rfl,cb_ok (a1 rfl) ((int_ok c1).trans (by dsimp only;rw[l_mk]))⟩
   ·simp[l_mk]
  refine go (asg2l s2) (Qf ?_)
  have b1:=val_lt c1
  refine(Zm rfl (Zm rfl rfl (gT (smI (by lia) (by lia)) (smI (by lia) (by have:(10:Nat) ^ 9=1000000000:=rfl;lia)))) rfl).trans ?_
  show M.ok (D.bl (decide (((digitsVal (tp l):Nat):Int)<(n:Int)*((digitsVal (bt l):Nat):Int))))=_
  congr 2
  rw[Bool.eq_iff_iff]
  simp
  exact_mod_cast Iff.rfl
end Law
set_option maxRecDepth 1000000
set_option maxHeartbeats 4000000
set_option linter.all false
namespace Law
open PySem L2 DL PySem.Builtin PySem.Builtin.Str PySem.StrLaws PySem.NumText
def pS:Str:=Str.ofString "person"
def aS:Str:=Str.ofString "a"
theorem sp_s:Str.ofString " " = mk [32]:=by decide +kernel
theorem lP:lS pS=[112,101,114,115,111,110]:=by decide +kernel
noncomputable def ptBody:DSt->M O:=(Zw (sSetFn 6 kREADERS (Zc 5))
   (Zw (Z9 7 (fun sd=>if Xg 6 "any_word" sd then(Y9 6 "any_word" F_any_word (Zd (Zc 4) Zh)) sd else(fun sd=>if Xg 6 "whole_word" sd then(Y9 6 "whole_word" Qb (Zd (Zc 4) Zh)) sd else(Y9 6 "number_word" Qt (Zd (Zc 4) Zh)) sd) sd))
   (Zw (sIf (DL.tB (eOp gIsN (Zc 7) (eC .non))) (sRaise0 "NoRow") Yz)
   (sApp 3 (Zc 7)))))
def noRow:XV:=⟨"NoRow", [],[]⟩
def nameS:Str:=Str.ofString "name"
def numbS:Str:=Str.ofString "number"
theorem rd_name:lookG kREADERS nameS=some (some (Str.ofString "any_word")):=by decide +kernel
theorem rd_numb:lookG kREADERS numbS=some (some (Str.ofString "number_word")):=by decide +kernel
theorem setFn_ok {i:Nat}{kvs:List (Str×Option Str)}{f:DSt->M D}{sd:DSt}{k nm:Str}(h:f sd=.ok (.str k))(hl:lookG kvs k=some (some nm)):sSetFn i kvs f sd=.ok (.nx (sd.set i (some (.fn nm)))):=by
 unfold sSetFn
 rw[h,M.bind_ok]
 dsimp only
 rw[hl]
theorem fnS_is {i:Nat}{nm y:Str}{sd:DSt}(h:sd[i]?=some (some (.fn y))):Xg i nm sd=decide (y=nm):=by
 unfold Xg
 rw[h]
theorem pt_any (r hv ws x6 x7:Option S)(acc:List D)(hl:acc.length<=1000)(w:Str) :
  ptBody [r,hv,ws,some (.ow acc),some (.im (.str w)),some (.im (.str nameS)),x6,x7]=.ok (.nx [r,hv,ws,some (.ow (acc++[.str w])),some (.im (.str w)),some (.im (.str nameS)),some (.fn (Str.ofString "any_word")),some (.im (.str w))]):=by
 unfold ptBody
 refine go (sd':=[r,hv,ws,some (.ow acc),some (.im (.str w)),some (.im (.str nameS)),some (.fn (Str.ofString "any_word")),x7]) ?_ ?_
 ·exact setFn_ok rfl rd_name
 ·refine go (sd':=[r,hv,ws,some (.ow acc),some (.im (.str w)),some (.im (.str nameS)),some (.fn (Str.ofString "any_word")),some (.im (.str w))]) ?_ ?_
  ·refine Q7 ?_
   dsimp only
   rw[if_pos ((fnS_is rfl).trans (by decide +kernel))]
   unfold Y9
   rw[if_pos ((fnS_is rfl).trans (by decide +kernel))]
   rfl
  ·exact go (Ym rfl) (app_ok rfl rfl hl)
theorem pt_num (r hv ws x6 x7:Option S)(acc:List D)(hl:acc.length<=1000)(w:Str)(hw:w.length<=900000) :
  ptBody [r,hv,ws,some (.ow acc),some (.im (.str w)),some (.im (.str numbS)),x6,x7]=if Qd (lS w) then .ok (.nx [r,hv,ws,some (.ow (acc++[Y6 (lS w)])),some (.im (.str w)),some (.im (.str numbS)),some (.fn (Str.ofString "number_word")),some (.im (Y6 (lS w)))]) else .ex noRow:=by
 unfold ptBody
 have s1:sSetFn 6 kREADERS (Zc 5) [r,hv,ws,some (.ow acc),some (.im (.str w)),some (.im (.str numbS)),x6,x7]=.ok (.nx [r,hv,ws,some (.ow acc),some (.im (.str w)),some (.im (.str numbS)),some (.fn (Str.ofString "number_word")),x7]):=setFn_ok rfl rd_numb
 have s2:∀v,Qt [.str w]=.ok (.im v)->Z9 7 (fun sd=>if Xg 6 "any_word" sd then(Y9 6 "any_word" F_any_word (Zd (Zc 4) Zh)) sd else(fun sd=>if Xg 6 "whole_word" sd then(Y9 6 "whole_word" Qb (Zd (Zc 4) Zh)) sd else(Y9 6 "number_word" Qt (Zd (Zc 4) Zh)) sd) sd) [r,hv,ws,some (.ow acc),some (.im (.str w)),some (.im (.str numbS)),some (.fn (Str.ofString "number_word")),x7]=.ok (.nx [r,hv,ws,some (.ow acc),some (.im (.str w)),some (.im (.str numbS)),some (.fn (Str.ofString "number_word")),some (.im v)]):=fun v hv'=>by
  refine Q7 ?_
  dsimp only
  rw[if_neg (by rw[fnS_is rfl];decide +kernel),if_neg (by rw[fnS_is rfl];decide +kernel)]
  unfold Y9
  rw[if_pos ((fnS_is rfl).trans (by decide +kernel))]
  exact Z4 (a1 rfl) hv' rfl
 have fw:=f_number_word w (by lia)
 cases hN:Qd (lS w) with
 |false =>
  rw[hN,if_neg (by decide)] at fw
  rw[if_neg (by decide)]
  refine go s1 (go (s2 _ fw) (sSeq_ex (Yw rfl rfl)))
 |true =>
  rw[hN,if_pos rfl] at fw
  rw[if_pos rfl]
  exact go s1 (go (s2 _ fw) (go (Ym rfl) (app_ok rfl rfl hl)))
end Law
set_option maxRecDepth 1000000
set_option maxHeartbeats 4000000
set_option linter.all false
namespace Law
open PySem L2 DL PySem.Builtin PySem.Builtin.Str PySem.StrLaws PySem.NumText
theorem cut_from (ds:List D)(n:Nat):cutD ds (some (n:Int)) none=ds.drop n:=by
 unfold cutD
 rw[HT.sIx_none,HT.sIx_nat]
 rcases Nat.le_total n ds.length with h|h
 ·rw[Nat.min_eq_left h,List.take_of_length_le (by rw[List.length_drop];lia)]
 ·rw[Nat.min_eq_right h,List.drop_eq_nil_of_le (Nat.le_refl _),List.drop_eq_nil_of_le h];simp
theorem rest_ok {f:DSt->M D}{sd:DSt}{d:D}{ds:List D}(h:f sd=.ok (.lst (d::ds))):eSl f (Qi (eC (.int 1))) Qh sd=.ok (.lst ds):=by
 unfold eSl
 rw[h,M.bind_ok]
 show(M.ok (some (1:Int))).bind _=_
 rw[M.bind_ok]
 show(M.ok none).bind _=_
 rw[M.bind_ok]
 show M.ok (D.lst (cutD (d::ds) (some ((1:Nat):Int)) none))=_
 rw[cut_from]
 rfl
abbrev lPr:List Nat:=[112,101,114,115,111,110]
theorem mkP:mk lPr=pS:=by rw[<-mk_l pS,lP]
theorem fm_has:hasG kFORMS pS=true:=by decide +kernel
theorem fm_look:lookG kFORMS pS=some (some [nameS,numbS,numbS]):=by decide +kernel
theorem f_form (n:Int):Xt [.str pS,.int n]=if n=3 then .ok [nameS,numbS,numbS] else .ex noRow:=by
 unfold Xt fForm
 dsimp only
 rw[fm_has,if_pos rfl,fm_look]
 dsimp only
 rw[if_neg (by decide +kernel)]
 by_cases h:n=3
 ·rw[if_pos h,if_pos (by rw[h];rfl)]
 ·rw[if_neg h,if_neg (fun z=>h z.symm)]
  rfl
def partsR (w:List (List Nat)):M S:=match w with
 |[b,c]=>if Qd b then(if Qd c then .ok (.ow [.str pS,.str aS,Y6 b,Y6 c]) else .ex noRow) else .ex noRow
 |_=>.ex noRow
theorem mkA:mk [97]=aS:=by decide +kernel
theorem f_parts {z:Str}(hz:z.length<=900000){w:List (List Nat)}(e:Zl 32 (lS z)=lPr::[97]::w):Yh [.str z]=partsR w:=by
 have hl:(lS z).length<=900000:=by rw[<-Qn];exact hz
 have hm:32∈lS z:=by
  by_cases h:32∈lS z
  ·exact h
  ·rw[Qv h] at e
   have:=congrArg List.length e
   simp at this
 have ht:tw 32 (lS z)=lPr:=by
  have:=Qw hm
  rw[e] at this
  exact(List.cons.inj this).1.symm
 have wl:∀p∈w,p.length<=900000:=fun p hp=>Nat.le_trans (Y3 (c:=32) (l:=lS z) (by rw[e];simp[hp])) hl
 have wn:w.length<=900001:=by
  have:=splitL_len 32 (lS z)
  rw[e] at this
  simp at this
  lia
 unfold Yh
 rw[fn1]
 have s1:=ePart_ok (f:=Zc 0) (g:=eC (.str (Str.ofString " "))) (sd:=[some (S.im (.str z))]++List.replicate 7 none) (z:=z) (c:=32) rfl (by rw[<-sp_s];rfl) (by lia)
 rw[ht] at s1
 generalize (D.str (mk (if 32∈lS z then [32] else [])))=h1 at s1
 generalize (D.str (mk (af 32 (lS z))))=h2 at s1
 have s2:=eSplit_ok (f:=Zc 0) (g:=eC (.str (Str.ofString " "))) (sd:=[some (S.im (.str z)),some (S.im (.tup [.str (mk lPr),h1,h2])),none,none,none,none,none,none]) (z:=z) (c:=32) rfl (by rw[<-sp_s];rfl) hz (by decide)
 rw[e] at s2
 have t1:DL.tA (DL.tB (eOp gEq (eOp gIx (Zc 1) (eC (.int 0))) (eC (.str (Str.ofString "hall"))))) (DL.tB (eOp gEq (eOp gIx (Zc 1) (eC (.int 1))) (eC (.str (Str.ofString " "))))) [some (S.im (.str z)),some (S.im (.tup [.str (mk lPr),h1,h2])),none,none,none,none,none,none]=.ok false:=by
  refine tA_f ?_
  rw[Yu (Zm (Zm rfl rfl (ixT0 _ _)) rfl (gEqS _ _)),decide_eq_false (by rw[mkP];decide +kernel)]
 have i0:eOp gIx (Zc 2) (eC (.int 0)) [some (S.im (.str z)),some (S.im (.tup [.str (mk lPr),h1,h2])),some (S.im (.lst ((lPr::[97]::w).map fun p=>D.str (mk p)))),none,none,none,none,none]=.ok (.str pS):=by
  rw[<-mkP]
  exact Zm rfl rfl (ixL0 _ _)
 have o3:sOwn 3 (fLst (Zd (eOp gIx (Zc 2) (eC (.int 0))) Zh)) [some (S.im (.str z)),some (S.im (.tup [.str (mk lPr),h1,h2])),some (S.im (.lst ((lPr::[97]::w).map fun p=>D.str (mk p)))),none,none,none,none,none]=.ok (.nx [some (S.im (.str z)),some (S.im (.tup [.str (mk lPr),h1,h2])),some (S.im (.lst ((lPr::[97]::w).map fun p=>D.str (mk p)))),some (S.ow [.str pS]),none,none,none,none]):=by
  refine own_ok ?_
  unfold fLst
  rw[a1 i0]
  rfl
 have pre:∀{rest:DSt->M O} {res:M O},rest [some (S.im (.str z)),some (S.im (.tup [.str (mk lPr),h1,h2])),some (S.im (.lst ((lPr::[97]::w).map fun p=>D.str (mk p)))),some (S.ow [.str pS]),none,none,none,none]=res ->
   (Zw (sIf (DL.tN (DL.tB (eIs "str" (Zc 0)))) (sRaise0 "NoRow") Yz)
   (Zw (Z9 1 (ePart (Zc 0) (eC (.str (Str.ofString " ")))))
   (Zw (sIf (DL.tA (DL.tB (eOp gEq (eOp gIx (Zc 1) (eC (.int 0))) (eC (.str (Str.ofString "hall"))))) (DL.tB (eOp gEq (eOp gIx (Zc 1) (eC (.int 1))) (eC (.str (Str.ofString " ")))))) (Qq (eLst (Zd (eC (.str (Str.ofString "hall"))) (Zd (eOp gIx (Zc 1) (eC (.int 2))) Zh)))) Yz)
   (Zw (Z9 2 (Xa (Zc 0) (eC (.str (Str.ofString " ")))))
   (Zw (sOwn 3 (fLst (Zd (eOp gIx (Zc 2) (eC (.int 0))) Zh))) rest))))) ([some (S.im (.str z))]++List.replicate 7 none)=res:=fun hr =>
  go (Ym rfl) (go (Q7 s1) (go (Ym t1) (go (Q7 s2) (go o3 hr))))
 have hlen:eOp gSub (eCB Ys (Zd (Zc 2) Zh)) (eC (.int 1)) [some (S.im (.str z)),some (S.im (.tup [.str (mk lPr),h1,h2])),some (S.im (.lst ((lPr::[97]::w).map fun p=>D.str (mk p)))),some (S.ow [.str pS]),none,none,none,none]=.ok (.int ((w.length:Int)+1)):=by
  refine(Zm (lenL_ok rfl (by simp;lia)) rfl rfl).trans ?_
  show M.ok (D.int (((((lPr::[97]::w).map fun p=>D.str (mk p)).length:Nat):Int) - 1))=_
  rw[List.length_map,List.length_cons,List.length_cons]
  congr 2
  lia
 have i0':eOp gIx (Zc 2) (eC (.int 0)) [some (S.im (.str z)),some (S.im (.tup [.str (mk lPr),h1,h2])),some (S.im (.lst ((lPr::[97]::w).map fun p=>D.str (mk p)))),some (S.ow [.str pS]),none,none,none,none]=.ok (.str pS):=by
  rw[<-mkP]
  exact Zm rfl rfl (ixL0 _ _)
 have it:iZipT (eSl (Zc 2) (Qi (eC (.int 1))) Qh) Xt (Zd (eOp gIx (Zc 2) (eC (.int 0))) (Zd (eOp gSub (eCB Ys (Zd (Zc 2) Zh)) (eC (.int 1))) Zh)) [some (S.im (.str z)),some (S.im (.tup [.str (mk lPr),h1,h2])),some (S.im (.lst ((lPr::[97]::w).map fun p=>D.str (mk p)))),some (S.ow [.str pS]),none,none,none,none]=if w.length=2 then .ok (zipD (([97]::w).map fun p=>D.str (mk p)) [.str nameS,.str numbS,.str numbS]) else .ex noRow:=by
  unfold iZipT
  rw[rest_ok (ds:=([97]::w).map fun p=>D.str (mk p)) rfl,M.bind_ok]
  dsimp only
  rw[aC i0' (a1 hlen),M.bind_ok,f_form]
  by_cases h:w.length=2
  ·rw[if_pos h,if_pos (by rw[h];rfl)]
   rfl
  ·rw[if_neg h,if_neg (by lia)]
   rfl
 by_cases h:w.length=2
 ·match w,h with
  |[b,c],_ =>
   rw[if_pos (show [b,c].length=2 from rfl)] at it
   have hb:(mk b).length<=900000:=by rw[mk_len];exact wl b (by simp)
   have hc:(mk c).length<=900000:=by rw[mk_len];exact wl c (by simp)
   rw[show partsR [b,c]=if Qd b then(if Qd c then .ok (.ow [.str pS,.str aS,Y6 b,Y6 c]) else .ex noRow) else .ex noRow from rfl]
   generalize some (S.im (.str z))=y0 at *
   generalize some (S.im (.tup [.str (mk lPr),h1,h2]))=y1 at *
   generalize some (S.im (.lst ((lPr::[97]::[b,c]).map fun p=>D.str (mk p))))=y2 at *
   have l1:=pt_any y0 y1 y2 none none [.str pS] (by simp) (mk [97])
   have l2:=pt_num y0 y1 y2 (some (.fn (Str.ofString "any_word"))) (some (.im (.str (mk [97])))) ([.str pS]++[.str (mk [97])]) (by simp) (mk b) hb
   rw[l_mk] at l2
   have lp:∀{r:M O},loopD (gTupD 2 (Y0 (gNm 4) (Y0 (gNm 5) gsNil))) ptBody [.tup [.str (mk b),.str numbS],.tup [.str (mk c),.str numbS]] [y0,y1,y2,some (S.ow ([.str pS]++[.str (mk [97])])),some (.im (.str (mk [97]))),some (.im (.str nameS)),some (.fn (Str.ofString "any_word")),some (.im (.str (mk [97])))]=r ->
     sFor (iZipT (eSl (Zc 2) (Qi (eC (.int 1))) Qh) Xt (Zd (eOp gIx (Zc 2) (eC (.int 0))) (Zd (eOp gSub (eCB Ys (Zd (Zc 2) Zh)) (eC (.int 1))) Zh))) (gTupD 2 (Y0 (gNm 4) (Y0 (gNm 5) gsNil))) ptBody [y0,y1,y2,some (S.ow [.str pS]),none,none,none,none]=r:=fun hr =>
    (sFor_ok it).trans ((loop_nx rfl l1).trans hr)
   cases hB:Qd b with
   |false =>
    rw[hB,if_neg (by decide)] at l2
    rw[if_neg (by decide)]
    exact fin_ex (pre (sSeq_ex (lp (loop_ex rfl l2))))
   |true =>
    rw[hB,if_pos rfl] at l2
    rw[if_pos rfl]
    have l3:=pt_num y0 y1 y2 (some (.fn (Str.ofString "number_word"))) (some (.im (Y6 b))) ([.str pS]++[.str (mk [97])]++[Y6 b]) (by simp) (mk c) hc
    rw[l_mk] at l3
    cases hC:Qd c with
    |false =>
     rw[hC,if_neg (by decide)] at l3
     rw[if_neg (by decide)]
     exact fin_ex (pre (sSeq_ex (lp ((loop_nx rfl l2).trans (loop_ex rfl l3)))))
    |true =>
     rw[hC,if_pos rfl] at l3
     rw[if_pos rfl]
     refine Q0 (pre (go (lp ((loop_nx rfl l2).trans ((loop_nx rfl l3).trans rfl))) ?_))
     rw[<-mkA]
     rfl
 ·rw[if_neg h] at it
  have:partsR w=.ex noRow:=by
   unfold partsR
   split
   ·exact absurd rfl h
   ·rfl
  rw[this]
  refine fin_ex (pre (sSeq_ex ?_))
  unfold sFor
  rw[it]
  rfl
end Law
set_option maxRecDepth 1000000
set_option maxHeartbeats 4000000
set_option linter.all false
namespace Law
open PySem L2 DL PySem.Builtin PySem.Builtin.Str PySem.StrLaws PySem.NumText
section
variable {sd sd':DSt} {r r':Dk}
theorem kgo {f g:DSt->Dk->KE KO}{res:KE KO}(h:f sd r=.ok (.nx sd') r')(k:g sd' r'=res):Qz f g sd r=res:=by unfold Qz;rw[h];exact k
theorem kex {f g:DSt->Dk->KE KO}{z:XV}(h:f sd r=.ex z r'):Qz f g sd r=.ex z r':=by unfold Qz;rw[h];rfl
theorem krt {f g:DSt->Dk->KE KO}{d:D}(h:f sd r=.ok (.rt d) r'):Qz f g sd r=.ok (.rt d) r':=by unfold Qz;rw[h];rfl
theorem Q2 {i:Nat}{g:DSt->Dk->KE D}{d:D}(h:g sd r=.ok d r'):Q5 i g sd r=.ok (.nx (sd.set i (some (.im d)))) r':=by unfold Q5;rw[h];rfl
theorem kset_ex {i:Nat}{g:DSt->Dk->KE D}{z:XV}(h:g sd r=.ex z r'):Q5 i g sd r=.ex z r':=by unfold Q5;rw[h];rfl
theorem Xk {f:DSt->M D}{d:D}(h:f sd=.ok d):kD f sd r=.ok d r:=by unfold kD;rw[h];rfl
theorem kB_ok {f:DSt->M Bool}{d:Bool}(h:f sd=.ok d):kB f sd r=.ok d r:=by unfold kB;rw[h];rfl
theorem kif_f {c:DSt->Dk->KE Bool}{f:DSt->Dk->KE KO}(h:c sd r=.ok false r'):kIf c f kNil sd r=.ok (.nx sd) r':=by unfold kIf;rw[h];rfl
theorem kif_e {c:DSt->Dk->KE Bool}{f g:DSt->Dk->KE KO}{res:KE KO}(h:c sd r=.ok false r')(k:g sd r'=res):kIf c f g sd r=res:=by unfold kIf;rw[h];exact k
theorem kif_t {c:DSt->Dk->KE Bool}{f g:DSt->Dk->KE KO}{res:KE KO}(h:c sd r=.ok true r')(k:f sd r'=res):kIf c f g sd r=res:=by unfold kIf;rw[h];exact k
theorem kret_ok {g:DSt->Dk->KE D}{d:D}(h:g sd r=.ok d r'):kRet g sd r=.ok (.rt d) r':=by unfold kRet;rw[h];rfl
theorem fnY1 (m:Nat)(g:DSt->Dk->KE KO)(a0:D):fnY 1 m g r [a0]=endY (g (none::([some (S.im a0)]++List.replicate m none)) r):=rfl
end
abbrev kA:Key:=.inr aS
def okS:Str:=Str.ofString "ok"
def Ppl (ps:List (Key×D)):Prop:=ps=[]\/∃v,ps=[(kA,v)]
theorem name_ok:Xp [.str aS]=.ok (.im (.bl true)):=by
 have h:(match Xp [.str (Str.ofString "a")] with | .ok (.im (.bl b))=>b|_=>false)=true:=by decide +kernel
 show Xp [.str (Str.ofString "a")]=_
 split at h
 ·rename_i b e;rw[e,h]
 ·cases h
theorem nmb_ok (h v:D):F_number_of ⟨h,[(kA,v)]⟩ [.str aS]=.ok (.int 0) ⟨h,[(kA,v)]⟩:=by
 rfl
theorem oth_ok (h:D){ps:List (Key×D)}(hp:Ppl ps)(x1 x3 x4 x5:Option S):kComp 5 1 [0,2] (gNm 0) (DL.tB (eOp gNe (Zc 0) (Zc 2))) eBad [none,x1,some (S.im (.str aS)),x3,x4,x5] ⟨h,ps⟩=.ok (.nx [none,x1,some (S.im (.str aS)),x3,x4,some (S.im (.lst []))]) ⟨h,ps⟩:=by
 rcases hp with rfl|⟨v,rfl⟩
 ·rfl
 ·rfl
end Law
set_option maxRecDepth 1000000
set_option maxHeartbeats 4000000
set_option linter.all false
namespace Law
open PySem L2 DL PySem.Builtin PySem.Builtin.Str PySem.StrLaws PySem.NumText
theorem put_ok {ps:List (Key×D)}(hp:Ppl ps)(v:D):putD ps kA v=[(kA,v)]:=by
 rcases hp with rfl|⟨w,rfl⟩
 ·rfl
 ·simp[putD]
def cntI (ps:List (Key×D)):Int:=0
theorem f_person {h:D}(hh:hall3 h=true){ps:List (Key×D)}(hp:Ppl ps){a b c d:Int}(f1:Fr 9 a b)(f2:Fr 9 c d) :
  Qc ⟨h,ps⟩ [.lst [.str aS,nD a b,nD c d]]=if btw a b 3&&btw c d 2 then .ok (.str okS) ⟨h,[(kA,.tup [nD a b,nD c d])]⟩ else .ex ⟨"NoPerson", ["number"],[.int 0]⟩ ⟨h,ps⟩:=by
 unfold Qc
 rw[fnY1]
 have s1:Q5 2 (kD (eOp gIx (Zc 1) (eC (.int 0)))) (none::([some (S.im (.lst [.str aS,nD a b,nD c d]))]++List.replicate 4 none)) ⟨h,ps⟩=.ok (.nx [none,some (S.im (.lst [.str aS,nD a b,nD c d])),some (S.im (.str aS)),none,none,none]) ⟨h,ps⟩:=Q2 (Xk (Zm rfl rfl (ixL0 _ _)))
 generalize hx1:some (S.im (D.lst [.str aS,nD a b,nD c d]))=x1 at *
 have s2:kIf (kB (DL.tN (DL.tB (Zt Xp (Zd (Zc 2) Zh))))) (kRaise0 "NoName") kNil [none,x1,some (S.im (.str aS)),none,none,none] ⟨h,ps⟩=.ok (.nx [none,x1,some (S.im (.str aS)),none,none,none]) ⟨h,ps⟩:=kif_f (kB_ok (tN_b (Yu (Z4 (a1 rfl) name_ok rfl))))
 have s3:Q5 3 (kD (eTup (Zd (eOp gIx (Zc 1) (eC (.int 1))) (Zd (eOp gIx (Zc 1) (eC (.int 2))) Zh)))) [none,x1,some (S.im (.str aS)),none,none,none] ⟨h,ps⟩=.ok (.nx [none,x1,some (S.im (.str aS)),some (S.im (.tup [nD a b,nD c d])),none,none]) ⟨h,ps⟩:=by
  subst hx1
  refine Q2 (Xk (tup2 (Zm rfl rfl (ixL1 _ _ _)) (Zm rfl rfl ?_)))
  show(match atI [D.str aS,nD a b,nD c d] 2 with|some d=>M.ok d|none=>.bad)=_
  rw[atI2]
 have s4:Q5 4 (kIfE (kIn (Zc 2)) (Xb F_number_of (Zd (Zc 2) Zh)) kLen) [none,x1,some (S.im (.str aS)),some (S.im (.tup [nD a b,nD c d])),none,none] ⟨h,ps⟩=.ok (.nx [none,x1,some (S.im (.str aS)),some (S.im (.tup [nD a b,nD c d])),some (S.im (.int 0)),none]) ⟨h,ps⟩:=by
  refine Q2 (d:=.int 0) ?_
  rcases hp with rfl|⟨v,rfl⟩
  ·rfl
  ·have q:kIn (Zc 2) [none,x1,some (S.im (.str aS)),some (S.im (.tup [nD a b,nD c d])),none,none] ⟨h,[(kA,v)]⟩=.ok true ⟨h,[(kA,v)]⟩:=by
    show KE.ok (hasD [(kA,v)] kA) _=_
    rw[show hasD [(kA,v)] kA=true by simp[hasD]]
   unfold kIfE
   rw[q]
   exact nmb_ok h v
 have s5:=oth_ok h hp x1 (some (S.im (.tup [nD a b,nD c d]))) (some (S.im (.int 0))) none
 have my:kCallN Ye (kaCons kHall (kaCons (kD (Zc 3)) kaNil)) [none,x1,some (S.im (.str aS)),some (S.im (.tup [nD a b,nD c d])),some (S.im (.int 0)),some (S.im (.lst []))] ⟨h,ps⟩=.ok (.bl (btw a b 3&&btw c d 2)) ⟨h,ps⟩:=by
  show(match Ye [h,.tup [nD a b,nD c d]] with | .ok (.im d)=>KE.ok d ⟨h,ps⟩|_=>.bad)=_
  rw[f_may hh f1 f2]
 have t6:kTO (kTN (kTV (kCallN Ye (kaCons kHall (kaCons (kD (Zc 3)) kaNil))))) (kB (DL.tB (eOp gIn (Zc 3) (Zc 5)))) [none,x1,some (S.im (.str aS)),some (S.im (.tup [nD a b,nD c d])),some (S.im (.int 0)),some (S.im (.lst []))] ⟨h,ps⟩=.ok (!(btw a b 3&&btw c d 2)) ⟨h,ps⟩:=by
  unfold kTO kTN kTV
  rw[my]
  cases (btw a b 3&&btw c d 2) with
  |true=>rfl
  |false=>rfl
 cases hb:(btw a b 3&&btw c d 2) with
 |false =>
  rw[hb] at t6
  rw[if_neg (by decide)]
  rw[kgo s1 (kgo s2 (kgo s3 (kgo s4 (kgo s5 (kex (z:=⟨"NoPerson", ["number"],[.int 0]⟩) (r':=⟨h,ps⟩) (kif_t t6 rfl))))))]
  rfl
 |true =>
  rw[hb] at t6
  rw[if_pos rfl]
  have s7:kPut (Zc 2) (Zc 3) [none,x1,some (S.im (.str aS)),some (S.im (.tup [nD a b,nD c d])),some (S.im (.int 0)),some (S.im (.lst []))] ⟨h,ps⟩=.ok (.nx [none,x1,some (S.im (.str aS)),some (S.im (.tup [nD a b,nD c d])),some (S.im (.int 0)),some (S.im (.lst []))]) ⟨h,[(kA,.tup [nD a b,nD c d])]⟩:=by
   have hl:ps.length<=1000000:=by rcases hp with rfl|⟨v,rfl⟩<;>simp
   show(if ps.length<=1000000 then KE.ok (KO.nx _) ⟨h,putD ps kA (.tup [nD a b,nD c d])⟩ else .bad)=_
   rw[if_pos hl,put_ok hp]
  rw[kgo s1 (kgo s2 (kgo s3 (kgo s4 (kgo s5 (kgo (kif_f t6) (kgo s7 (kret_ok (Xk rfl))))))))]
  rfl
theorem f_say {h:D}(hh:hall3 h=true){ps:List (Key×D)}(hp:Ppl ps){z:Str}(hz:z.length<=900000){w:List (List Nat)}(e:Zl 32 (lS z)=lPr::[97]::w) :
  Z6 ⟨h,ps⟩ [.str z]=match partsR w with
   |.ok (.ow [_,_,n1,n2])=>Qc ⟨h,ps⟩ [.lst [.str aS,n1,n2]]
   |_=>.ex noRow ⟨h,ps⟩:=by
 unfold Z6
 rw[fnY1]
 have fp:=f_parts hz e
 have bad:∀z',Yh [.str z]=.ex z'->endY ((Qz (Q5 2 (kD (eCallX Yh (Zd (Zc 1) Zh))))
   (Qz (kSetFn 3 kANSWERS (eOp gIx (Zc 2) (eC (.int 0))))
   (kRet (fun sd r=>if Xg 3 "on_box" sd then(kCallL 3 "on_box" F_on_box (Zd (eSl (Zc 2) (Qi (eC (.int 1))) Qh) Zh)) sd r else(kCallL 3 "on_person" Qc (Zd (eSl (Zc 2) (Qi (eC (.int 1))) Qh) Zh)) sd r)))) (none::([some (S.im (.str z))]++List.replicate 2 none)) ⟨h,ps⟩)=.ex z' ⟨h,ps⟩:=fun z' hb=>by
  rw[kex (kset_ex (z:=z') (r':=⟨h,ps⟩) (show kD (eCallX Yh (Zd (Zc 1) Zh)) _ _=_ from by
   unfold kD
   rw[callX_ex (a1 rfl) hb]
   rfl))]
  rfl
 unfold partsR at fp ⊢
 split at fp
 ·rename_i b c
  cases hB:Qd b with
  |false =>
   rw[hB,if_neg (by decide)] at fp
   exact bad _ fp
  |true =>
   cases hC:Qd c with
   |false =>
    rw[hB,hC,if_pos rfl,if_neg (by decide)] at fp
    exact bad _ fp
   |true =>
    rw[hB,hC,if_pos rfl,if_pos rfl] at fp
    have s1:Q5 2 (kD (eCallX Yh (Zd (Zc 1) Zh))) (none::([some (S.im (.str z))]++List.replicate 2 none)) ⟨h,ps⟩=.ok (.nx [none,some (S.im (.str z)),some (S.im (.lst [.str pS,.str aS,Y6 b,Y6 c])),none]) ⟨h,ps⟩:=Q2 (Xk (callX_ok (a1 rfl) fp rfl))
    have s2:kSetFn 3 kANSWERS (eOp gIx (Zc 2) (eC (.int 0))) [none,some (S.im (.str z)),some (S.im (.lst [.str pS,.str aS,Y6 b,Y6 c])),none] ⟨h,ps⟩=.ok (.nx [none,some (S.im (.str z)),some (S.im (.lst [.str pS,.str aS,Y6 b,Y6 c])),some (S.fn (Str.ofString "on_person"))]) ⟨h,ps⟩:=by
     unfold kSetFn
     rw[Zm rfl rfl (ixL0 _ _)]
     show(match lookG kANSWERS pS with|some (some nm)=>KE.ok (KO.nx _) _|_=>.bad)=_
     rw[show lookG kANSWERS pS=some (some (Str.ofString "on_person")) by decide +kernel]
     rfl
    have s3:(fun sd r=>if Xg 3 "on_box" sd then(kCallL 3 "on_box" F_on_box (Zd (eSl (Zc 2) (Qi (eC (.int 1))) Qh) Zh)) sd r else(kCallL 3 "on_person" Qc (Zd (eSl (Zc 2) (Qi (eC (.int 1))) Qh) Zh)) sd r) [none,some (S.im (.str z)),some (S.im (.lst [.str pS,.str aS,Y6 b,Y6 c])),some (S.fn (Str.ofString "on_person"))] (⟨h,ps⟩:Dk)=Qc ⟨h,ps⟩ [.lst [.str aS,Y6 b,Y6 c]]:=by
     dsimp only
     rw[if_neg (by rw[fnS_is rfl];decide +kernel)]
     unfold kCallL Xb
     rw[if_pos ((fnS_is rfl).trans (by decide +kernel)),a1 (rest_ok rfl)]
     rfl
    rw[kgo s1 (kgo s2 rfl)]
    unfold kRet
    rw[s3]
    show endY ((Qc ⟨h,ps⟩ [.lst [.str aS,Y6 b,Y6 c]]).bind _)=Qc ⟨h,ps⟩ [.lst [.str aS,Y6 b,Y6 c]]
    cases Qc ⟨h,ps⟩ [.lst [.str aS,Y6 b,Y6 c]]<;>rfl
 ·rename_i hne
  have:=bad _ fp
  refine this.trans ?_
  split
  ·rename_i q;cases q
  ·rfl
end Law
set_option maxRecDepth 1000000
set_option maxHeartbeats 4000000
set_option linter.all false
namespace Law
open PySem L2 DL PySem.Builtin PySem.Builtin.Str PySem.StrLaws PySem.NumText
def rowS:Str:=Str.ofString "row"
def perS:Str:=Str.ofString "person"
def dueW (w:List (List Nat)):Str:=match w with
 |[b,c]=>if Qd b&&Qd c then(if btw (topI b) (botI b) 3&&btw (topI c) (botI c) 2 then okS else perS) else rowS
 |_=>rowS
theorem dueW_two (b c:List Nat):dueW [b,c]=if Qd b&&Qd c then(if btw (topI b) (botI b) 3&&btw (topI c) (botI c) 2 then okS else perS) else rowS:=rfl
theorem f_asked {h:D}(hh:hall3 h=true){ps:List (Key×D)}(hp:Ppl ps){z:Str}(hz:z.length<=900000){w:List (List Nat)}(e:Zl 32 (lS z)=lPr::[97]::w) :
  ∃ps',Ppl ps'/\Ya ⟨h,ps⟩ [.str z]=.ok (.str (dueW w)) ⟨h,ps'⟩:=by
 have fs:=f_say hh hp hz e
 have run:∀v:KE D,Z6 ⟨h,ps⟩ [.str z]=v->Ya ⟨h,ps⟩ [.str z]=endY ((match v with
   |.ok d r'=>(KE.ok (.nx [none,some (S.im (.str z)),some (S.im d)]) r':KE KO)
   |.ex x r'=>if x.cls = "NoRow" then .ok (.rt (.str "row")) r' else if x.cls = "NoPerson" then .ok (.rt (.str "person")) r' else .bad
   |.bad=>.bad).bind fun o r'=>match o with
    |.nx sd'=>kRet (kD (Zc 2)) sd' r'
    |.rt d=>.ok (.rt d) r'):=fun v hv=>by
  unfold Ya
  rw[fnY1]
  unfold Qz kTry2
  show endY ((match Z6 ⟨h,ps⟩ [.str z] with | .ok d r'=>_ | .ex x r'=>_ | .bad=>_:KE KO).bind _)=_
  rw[hv]
  rfl
 have row:Z6 ⟨h,ps⟩ [.str z]=.ex noRow ⟨h,ps⟩->Ya ⟨h,ps⟩ [.str z]=.ok (.str rowS) ⟨h,ps⟩:=fun q=>by
  rw[run _ q]
  rfl
 unfold partsR at fs
 split at fs
 ·rename_i n1 n2 q
  split at q
  ·rename_i b c
   cases hB:Qd b with
   |false=>rw[hB] at q;cases q
   |true =>
   cases hC:Qd c with
   |false=>rw[hB,hC] at q;cases q
   |true =>
    rw[hB,hC,if_pos rfl,if_pos rfl] at q
    cases q
    have fp:=f_person hh hp (num_fr hB) (num_fr hC)
    rw[<-numD_eq,<-numD_eq] at fp
    rw[fp] at fs
    cases hb:(btw (topI b) (botI b) 3&&btw (topI c) (botI c) 2) with
    |true =>
     rw[hb,if_pos rfl] at fs
     refine⟨[(kA,.tup [Y6 b,Y6 c])],.inr ⟨_,rfl⟩,?_⟩
     rw[run _ fs,dueW_two,hB,hC,hb]
     rfl
    |false =>
     rw[hb,if_neg (by decide)] at fs
     refine⟨ps,hp,?_⟩
     rw[run _ fs]
     show endY ((if(Str.ofString "NoPerson")=Str.ofString "NoRow" then _ else if(Str.ofString "NoPerson")=Str.ofString "NoPerson" then _ else _:KE KO).bind _)=_
     rw[if_neg (by decide +kernel),if_pos rfl,dueW_two,hB,hC,hb]
     rfl
  ·cases q
 ·rename_i q
  refine⟨ps,hp,?_⟩
  rw[row fs]
  congr 2
  split at q
  ·rename_i b c
   rw[dueW_two]
   cases hB:Qd b with
   |false=>rfl
   |true =>
    cases hC:Qd c with
    |false=>rfl
    |true=>exact absurd (by rw[hB,hC];rfl) (q _ _ _ _)
  ·rename_i hne
   unfold dueW
   split
   ·exact(hne _ _ rfl).elim
   ·rfl
theorem split_app {c:Nat}{a b:List Nat}(h:c ∉ a):Zl c (a++c::b)=a::Zl c b:=by
 have:c∈a++c::b:=by simp
 have e:=tw_some this
 rw[Qw this]
 have k:tw c (a++c::b)=a/\af c (a++c::b)=b:=by
  unfold tw af
  induction a with
  |nil=>simp
  |cons x a ih =>
   have hx:x≠c:=fun z=>h (by simp[z])
   have:=ih (fun z=>h (by simp[z])) (by simp) (tw_some (by simp))
   simp[hx]
   simpa using this
 rw[k.1,k.2]
def preS:Str:=Str.ofString "person a "
theorem lPre:lS preS=lPr++32::([97]++[32]):=by decide +kernel
theorem row_words (x y:Str):Zl 32 (lS (preS++x++Str.ofString " " ++ y))=lPr::[97]::Zl 32 (lS x++32::lS y):=by
 rw[l_app,l_app,l_app,lPre,sp_s,l_mk]
 have e:lPr++32::([97]++[32])++lS x++[32]++lS y=lPr++32::([97]++32::(lS x++32::lS y)):=by simp
 rw[e,split_app (by decide),split_app (by decide)]
end Law
set_option maxRecDepth 100000
set_option maxHeartbeats 4000000
set_option linter.all false
namespace Law
open PySem L2 DL
def nbBody:DSt->M O:=(Zw (Z9 3 (eOp Yd (eOp Zz (eOp Zz (eOp Yt (Zc 3) (eOp Zz (eOp Yd (Zc 3) (eC (.int 65521))) (eC (.int 40487)))) (eOp Yt (eC (.int 7)) (Zc 5))) (eC (.int 5))) (eC (.int 1999999973))))
   (Zw (sApp 2 (eOp gIx (eLst (Zd (Zc 3) (Zd (eOp Yd (Zc 4) (eC (.int 1000000))) Zh))) (eCB bInt (Zd (eOp gGt (Zc 4) (eC (.int 0))) Zh))))
   (Z9 4 (eOp gFdiv (Zc 4) (eC (.int 1000000))))))
def nbOk (d:Int):Prop:=0<=d/\d<1999999973
theorem nb_turn (s0 s1:Option S)(ds:List D)(hd:ds.length<=1000)(N R K:Int)(hN:0<=N)(hN':N<1999999973)(hK:0<=K)(hK':K<=1000) :
  ∃d N':Int,0<=N'/\N'<1999999973/\nbOk d/\nbBody [s0,s1,some (.ow ds),some (.im (.int N)),some (.im (.int R)),some (.im (.int K))] =
   .ok (.nx [s0,s1,some (.ow (ds++[.int d])),some (.im (.int N')),some (.im (.int (R / 1000000))),some (.im (.int K))]):=by
 have q1:0<=N % 65521:=Int.emod_nonneg _ (by decide)
 have q2:N % 65521<65521:=Int.emod_lt_of_pos _ (by decide)
 have g1:=gM (i:=N) (j:=65521) (by decide)
 have g2:=gT (i:=N) (j:=N % 65521+40487) (sm30 (by lia) (by lia)) (sm30 (by lia) (by lia))
 have g3:=gT (i:=7) (j:=K) (sm30 (by lia) (by lia)) (sm30 (by lia) (by lia))
 have g4:=gM (i:=N*(N % 65521+40487)+7*K+5) (j:=1999999973) (by decide)
 have e1:Z9 3 (eOp Yd (eOp Zz (eOp Zz (eOp Yt (Zc 3) (eOp Zz (eOp Yd (Zc 3) (eC (.int 65521))) (eC (.int 40487)))) (eOp Yt (eC (.int 7)) (Zc 5))) (eC (.int 5))) (eC (.int 1999999973)))
   [s0,s1,some (.ow ds),some (.im (.int N)),some (.im (.int R)),some (.im (.int K))] =
   .ok (.nx [s0,s1,some (.ow ds),some (.im (.int ((N*(N % 65521+40487)+7*K+5) % 1999999973))),some (.im (.int R)),some (.im (.int K))]):=by
  simp[Z9,eOp,Zc,eC,g1,Zz,g2,g3,g4]
 have b1:0<=(N*(N % 65521+40487)+7*K+5) % 1999999973:=Int.emod_nonneg _ (by decide)
 have b2:(N*(N % 65521+40487)+7*K+5) % 1999999973<1999999973:=Int.emod_lt_of_pos _ (by decide)
 generalize (N*(N % 65521+40487)+7*K+5) % 1999999973=N' at e1 b1 b2
 have f1:few ds=true:=few_of (by lia)
 have g5:=gM (i:=R) (j:=1000000) (by decide)
 have g8:=gFd (i:=R) (j:=1000000) (by decide) (sm30 (by decide) (by decide))
 have f2:few [D.int N',D.int (R % 1000000)]=true:=few_of (by simp)
 by_cases hR:R > 0
 ·have p1:0<=R % 1000000:=Int.emod_nonneg _ (by decide)
  have p2:R % 1000000<1000000:=Int.emod_lt_of_pos _ (by decide)
  refine⟨R % 1000000,N',b1,b2,⟨p1,by lia⟩,go e1 ?_⟩
  simp[Zw,sApp,eOp,eLst,Zd,Zh,Zc,eC,g5,f2,eCB,gGt,gI0,hR,bInt,gIx,atI1,f1,Z9,g8]
 ·refine⟨N',N',b1,b2,⟨b1,b2⟩,go e1 ?_⟩
  simp[Zw,sApp,eOp,eLst,Zd,Zh,Zc,eC,g5,f2,eCB,gGt,gI0,hR,bInt,gIx,atI0,f1,Z9,g8]
theorem nb_loop (s0 s1:Option S):∀(ks:List Nat) (ds:List Int) (N R:Int) (v:Option S),ds.length+ks.length<=1000->(∀k∈ks,k<=1000)->0<=N->N<1999999973->(∀d∈ds,nbOk d) ->
  ∃(es:List Int) (N' R':Int) (v':Option S),es.length=ds.length+ks.length/\(∀d∈es,nbOk d)/\loopD (gNm 5) nbBody (ks.map fun(k:Nat)=>D.int (k:Int)) [s0,s1,some (.ow (ds.map D.int)),some (.im (.int N)),some (.im (.int R)),v] =
   .ok (.nx [s0,s1,some (.ow (es.map D.int)),some (.im (.int N')),some (.im (.int R')),v'])
 |[],ds,N,R,v,_,_,_,_,hd=>⟨ds,N,R,v,by simp,hd,by simp[loopD]⟩
 |k::ks,ds,N,R,v,h,hk,hN,hN',hd=>by
  rw[List.length_cons] at h
  have hk0:=hk k List.mem_cons_self
  obtain⟨d,N1,h1,h2,h3,e⟩:=nb_turn s0 s1 (ds.map D.int) (by simp;lia) N R (k:Int) hN hN' (by lia) (by lia)
  obtain⟨es,N',R',v',hl,ho,ih⟩:=nb_loop s0 s1 ks (ds++[d]) N1 (R / 1000000) (some (.im (.int (k:Int)))) (by simp;lia) (fun k hk'=>hk k (List.mem_cons_of_mem _ hk')) h1 h2 (fun d' hd'=>by
   rcases List.mem_append.mp hd' with q|q
   ·exact hd d' q
   ·have:d'=d:=by simpa using q
    rw[this];exact h3)
  refine⟨es,N',R',v',by rw[hl];simp;lia,ho,?_⟩
  rw[List.map_append,List.map_cons,List.map_nil] at ih
  rw[<-ih]
  simp[loopD,gNm,e]
theorem f_numbers (c:Int)(n:Nat)(hn:n<=1000):∃es:List Int,es.length=n/\(∀d∈es,nbOk d)/\Y5 [.int c,.int (n:Int)]=.ok (.ow (es.map D.int)):=by
 have g1:=gM (i:=c) (j:=1999999973) (by decide)
 have q1:0<=c % 1999999973:=Int.emod_nonneg _ (by decide)
 have q2:c % 1999999973<1999999973:=Int.emod_lt_of_pos _ (by decide)
 have g2:=gT (i:=c % 1999999973+31) (j:=765432101) (sm30 (by lia) (by lia)) (sm30 (by lia) (by lia))
 have g3:=gM (i:=(c % 1999999973+31)*765432101) (j:=1999999973) (by decide)
 have g4:gPow (.int 10) (.int 18)=.ok (.int 1000000000000000000):=rfl
 have b1:0<=(c % 1999999973+31)*765432101 % 1999999973:=Int.emod_nonneg _ (by decide)
 have b2:(c % 1999999973+31)*765432101 % 1999999973<1999999973:=Int.emod_lt_of_pos _ (by decide)
 have e2:Z9 3 (eOp Yd (eOp Yt (eOp Zz (eOp Yd (Zc 0) (eC (.int 1999999973))) (eC (.int 31))) (eC (.int 765432101))) (eC (.int 1999999973))) [some (.im (.int c)),some (.im (.int (n:Int))),some (.ow []),none,none,none] =
   .ok (.nx [some (.im (.int c)),some (.im (.int (n:Int))),some (.ow []),some (.im (.int ((c % 1999999973+31)*765432101 % 1999999973))),none,none]):=by
  simp[Z9,eOp,Zc,eC,g1,Zz,g2,g3]
 generalize (c % 1999999973+31)*765432101 % 1999999973=N at e2 b1 b2
 obtain⟨R,e4⟩:∃R:Int,(sIf (DL.tO (DL.tB (eOp gLt (Zc 0) (eC (.int 0)))) (DL.tB (eOp gGe (Zc 0) (eOp gPow (eC (.int 10)) (eC (.int 18)))))) (Z9 4 (eCB bAbs (Zd (Zc 0) Zh))) Yz) [some (.im (.int c)),some (.im (.int (n:Int))),some (.ow []),some (.im (.int N)),some (.im (.int 0)),none] =
   .ok (.nx [some (.im (.int c)),some (.im (.int (n:Int))),some (.ow []),some (.im (.int N)),some (.im (.int R)),none]):=by
  by_cases h1:c<0
  ·exact⟨-c,by simp[sIf,DL.tO,DL.tB,eOp,Zc,eC,gLt,gI0,h1,asB,Z9,eCB,bAbs,Zd,Zh]⟩
  ·by_cases h2:1000000000000000000<=c
   ·exact⟨c,by simp[sIf,DL.tO,DL.tB,eOp,Zc,eC,gLt,gGe,gI0,h1,h2,g4,asB,Z9,eCB,bAbs,Zd,Zh]⟩
   ·exact⟨0,by simp[sIf,DL.tO,DL.tB,eOp,Zc,eC,gLt,gGe,gI0,h1,h2,g4,asB,Z9,eCB,bAbs,Zd,Zh,Yz]⟩
 obtain⟨es,N',R',v',hl,ho,e5⟩:=nb_loop (some (.im (.int c))) (some (.im (.int (n:Int)))) (List.range n) [] N R none (by simp;lia) (fun k hk=>by have:=List.mem_range.mp hk;lia) b1 b2 (fun d hd=>by simp at hd)
 refine⟨es,by simpa using hl,ho,?_⟩
 have r1:∀s0 s,iRange1 (Zd (Zc 1) Zh) (s0::some (.im (.int (n:Int)))::s)=.ok ((List.range n).map fun(k:Nat)=>D.int (k:Int)):=fun s0 s=>iR1 (by simp[Zd,Zh,Zc]) hn
 exact(fn2 _ _ _ _).trans (Q0 (go (own_nil 2 _) (go e2 (go rfl (go e4 (go ((sFor_ok (r1 _ _)).trans e5) rfl))))))
end Law
set_option maxRecDepth 1000000
set_option maxHeartbeats 4000000
set_option linter.all false
namespace Law
open PySem L2 DL PySem.Builtin PySem.Builtin.Str PySem.StrLaws PySem.NumText
theorem Q9 (x y:Str):(x++y).length=x.length+y.length:=by rw[Qn,l_app,List.length_append,<-Qn,<-Qn]
theorem plus_s {fa fb:DSt->M D}{sd:DSt}{x y:Str}(h1:fa sd=.ok (.str x))(h2:fb sd=.ok (.str y))(hl:x.length+y.length<=100000):eOp Zz fa fb sd=.ok (.str (x++y)):=by
 refine Zm h1 h2 ?_
 show(if x.length+y.length<=sizeLine then _ else _)=_
 rw[if_pos (by rw[PySem.sizeLine_eq];lia)]
theorem slx_any {f:DSt->M D}{lo hi:DSt->M (Option Int)}{sd:DSt}{z:Str}{l u:Option Int}(h:f sd=.ok (.str z))(h1:lo sd=.ok l)(h2:hi sd=.ok u)(hz:z.length<=1000000):eSlX f lo hi sd=.ok (.str (Txt.slice z l u)):=by
 unfold eSlX
 rw[h,M.bind_ok,h1,M.bind_ok,h2,M.bind_ok]
 show(if z.length<=sizeLine then _ else _)=_
 rw[if_pos (size1 hz)]
theorem atI_lt {α:Type}{xs:List α}{i:Int}(h0:0<=i)(h1:i<xs.length):∃a,a∈xs/\atI xs i=some a:=by
 obtain⟨j,rfl⟩:=Int.eq_ofNat_of_zero_le h0
 have hj:j<xs.length:=by lia
 exact⟨xs[j],List.getElem_mem hj,atI_nat (List.getElem?_eq_getElem hj)⟩
theorem ixS {z:Str}(hz:z.length<=1000000){i:Int}(h0:0<=i)(h1:i<z.length):∃c,gIx (.str z) (.int i)=.ok (.str (mk [c])):=by
 obtain⟨c,_,e⟩:=atI_lt (xs:=z.cps.toList) h0 (by have:=Qn z;unfold lS at this;lia)
 refine⟨c,?_⟩
 show(if z.length<=sizeLine then _ else _)=_
 rw[if_pos (size1 hz),e]
 rfl
theorem ixL {ds:List D}{i:Int}(h0:0<=i)(h1:i<ds.length):∃d,d∈ds/\gIx (.lst ds) (.int i)=.ok d:=by
 obtain⟨d,hd,e⟩:=atI_lt h0 h1
 refine⟨d,hd,?_⟩
 show(match atI ds i with|some d=>M.ok d|none=>.bad)=_
 rw[e]
theorem signs_len:(Str.ofString "0123456789/-+ .").length=15:=by decide +kernel
theorem f_bent (x:Str)(hx:x.length<=300)(v:Int):∃y:Str,y.length<=1000/\F_l_bent [.str x,.int v]=.ok (.im (.str y)):=by
 have m15:=gM (i:=v) (j:=15) (by decide)
 have p0:0<=v % 15:=Int.emod_nonneg _ (by decide)
 have p1:v % 15<15:=Int.emod_lt_of_pos _ (by decide)
 obtain⟨c,hc⟩:=ixS (z:=Str.ofString "0123456789/-+ .") (by rw[signs_len];decide) p0 (by rw[signs_len];exact p1)
 have hv:∀{a b d e:Option S},Zc 1 [some (S.im (.str x)),some (S.im (.int v)),a,b,d]=.ok (.int v):=rfl
 have s1:Z9 2 (eOp gIx (eC (.str (Str.ofString "0123456789/-+ ."))) (eOp Yd (Zc 1) (eC (.int 15)))) ([some (S.im (.str x)),some (S.im (.int v))]++List.replicate 3 none)=.ok (.nx [some (S.im (.str x)),some (S.im (.int v)),some (S.im (.str (mk [c]))),none,none]):=Q7 (Zm rfl (Zm rfl rfl m15) hc)
 have fd:=gFd (i:=v) (j:=15) (by decide) (smI (by decide) (by decide))
 have hl:eOp Zz (eCB Ys (Zd (Zc 0) Zh)) (eC (.int 1)) [some (S.im (.str x)),some (S.im (.int v)),some (S.im (.str (mk [c]))),none,none]=.ok (.int ((x.length:Int)+1)):=by
  refine(Zm (len_ok (z:=x) (by lia) rfl) rfl rfl).trans ?_
  rw[<-Qn]
  rfl
 have mm:=gM (i:=v / 15) (j:=(x.length:Int)+1) (by lia)
 have s2:Z9 3 (eOp Yd (eOp gFdiv (Zc 1) (eC (.int 15))) (eOp Zz (eCB Ys (Zd (Zc 0) Zh)) (eC (.int 1)))) [some (S.im (.str x)),some (S.im (.int v)),some (S.im (.str (mk [c]))),none,none]=.ok (.nx [some (S.im (.str x)),some (S.im (.int v)),some (S.im (.str (mk [c]))),some (S.im (.int (v / 15 % ((x.length:Int)+1)))),none]):=Q7 (Zm (Zm rfl rfl fd) hl mm)
 generalize v / 15 % ((x.length:Int)+1)=k at s2
 have lk:∀l u,(Txt.slice x l u).length<=300:=fun l u=>Nat.le_trans (Txt.slice_le x l u) hx
 have l1:(mk [c]).length=1:=by rw[mk_len];rfl
 have e0:∀sd:DSt,sd=[some (S.im (.str x)),some (S.im (.int v)),some (S.im (.str (mk [c]))),some (S.im (.int k)),none]->eSlX (Zc 0) Qh (Qi (Zc 3)) sd=.ok (.str (Txt.slice x none (some k))):=fun sd h=>by subst h;exact slx_any rfl rfl rfl (by lia)
 have e1:∀sd:DSt,sd=[some (S.im (.str x)),some (S.im (.int v)),some (S.im (.str (mk [c]))),some (S.im (.int k)),none]->eSlX (Zc 0) (Qi (Zc 3)) Qh sd=.ok (.str (Txt.slice x (some k) none)):=fun sd h=>by subst h;exact slx_any rfl rfl rfl (by lia)
 have e2:∀sd:DSt,sd=[some (S.im (.str x)),some (S.im (.int v)),some (S.im (.str (mk [c]))),some (S.im (.int k)),none]->eSlX (Zc 0) (Qi (eOp Zz (Zc 3) (eC (.int 1)))) Qh sd=.ok (.str (Txt.slice x (some (k+1)) none)):=fun sd h=>by subst h;exact slx_any rfl rfl rfl (by lia)
 have q0:=lk none (some k)
 have q1:=lk (some k) none
 have q2:=lk (some (k+1)) none
 have s3:=fun(sd:DSt) (h:sd=[some (S.im (.str x)),some (S.im (.int v)),some (S.im (.str (mk [c]))),some (S.im (.int k)),none])=>lst_of (sd:=sd) (aC (show Zc 0 sd=.ok (.str x) by subst h;rfl)
  (aC (plus_s (plus_s (e0 sd h) (show Zc 2 sd=.ok (.str (mk [c])) by subst h;rfl) (by lia)) (e1 sd h) (by rw[Q9];lia))
  (aC (plus_s (e0 sd h) (e2 sd h) (by lia)) (a1 (plus_s (plus_s (e0 sd h) (show Zc 2 sd=.ok (.str (mk [c])) by subst h;rfl) (by lia)) (e2 sd h) (by rw[Q9];lia)))))) (few_of (by simp))
 have s3:=s3 _ rfl
 have fk:=gFd (i:=v) (j:=1000) (by decide) (smI (by decide) (by decide))
 have m4:=gM (i:=v / 1000) (j:=4) (by decide)
 obtain⟨d,hd,ed⟩:=ixL (ds:=[.str x,.str (Txt.slice x none (some k)++mk [c]++Txt.slice x (some k) none),.str (Txt.slice x none (some k)++Txt.slice x (some (k+1)) none),.str (Txt.slice x none (some k)++mk [c]++Txt.slice x (some (k+1)) none)]) (i:=v / 1000 % 4) (Int.emod_nonneg _ (by decide)) (Int.emod_lt_of_pos _ (by decide))
 have tx:∃y:Str,y.length<=1000/\d=.str y:=by
  simp only[List.mem_cons,List.not_mem_nil,or_false] at hd
  rcases hd with rfl|rfl|rfl|rfl
  ·exact⟨_,by lia,rfl⟩
  ·exact⟨_,by rw[Q9,Q9];lia,rfl⟩
  ·exact⟨_,by rw[Q9];lia,rfl⟩
  ·exact⟨_,by rw[Q9,Q9];lia,rfl⟩
 obtain⟨y,hy,rfl⟩:=tx
 refine⟨y,hy,?_⟩
 unfold F_l_bent
 rw[fn2]
 exact Q0 (go s1 (go s2 (go (Q7 s3) (Qf (Zm rfl (Zm (Zm rfl rfl fk) rfl m4) ed)))))
theorem strI {f:DSt->M D}{sd:DSt}{i:Int}(h:f sd=.ok (.int i))(hi:i.natAbs<10 ^ 10):eCB bStrI (Zd f Zh) sd=.ok (.str (nmS i)):=by
 refine cb_ok (a1 h) ?_
 show(if i.natAbs.log2<1920 then _ else _)=_
 rw[if_pos]
 ·rfl
 ·by_cases h0:i.natAbs=0
  ·rw[h0];decide
  ·exact(Nat.log2_lt h0).mpr (Nat.lt_of_lt_of_le hi (Nat.le_trans (show 10 ^ 10<=2 ^ 40 by decide) (Nat.pow_le_pow_right (by decide) (by decide))))
theorem f_lnum {P Q:Int}(hP:P.natAbs<10 ^ 10)(hQ:Q.natAbs<10 ^ 10):∃y:Str,y.length<=300/\Q6 [nD P Q]=.ok (.im (.str y)):=by
 have l1:=nm_len hP
 have l2:=nm_len hQ
 have ls:(Str.ofString "/").length=1:=by decide +kernel
 unfold Q6
 rw[fn1]
 have t:=Yu (f:=eOp gEq (eOp gIx (Zc 0) (eC (.int 1))) (eC (.int 1))) (sd:=[some (S.im (nD P Q))]++List.replicate 0 none) (Zm (Zm rfl rfl (ixT1 _ _ _)) rfl (gEqI Q 1))
 by_cases h:Q=1
 ·rw[decide_eq_true h] at t
  exact⟨_,by lia,Q0 (sSeq_rt (Yw t (Qf (strI (Zm rfl rfl (ixT0 _ _)) hP))))⟩
 ·rw[decide_eq_false h] at t
  refine⟨nmS P++Str.ofString "/" ++ nmS Q,by rw[Q9,Q9];lia,Q0 (go (Ym t) (Qf (plus_s (plus_s (strI (Zm rfl rfl (ixT0 _ _)) hP) rfl (by lia)) (strI (Zm rfl rfl (ixT1 _ _ _)) hQ) (by rw[Q9];lia))))⟩
theorem f_drawn {es:List Int}(he:∀d∈es,nbOk d)(hl:3<=es.length){n:Nat}(h2:2<=n)(h3:n<=3):∃P Q,Yk [.lst (es.map D.int),.int (n:Int)]=.ok (.im (nD P Q))/\Fr 9 P Q:=by
 match es,hl with
 |x0::x1::x2::r,_ =>
  have k0:=he x0 (by simp)
  have k1:=he x1 (by simp)
  have k2:=he x2 (by simp)
  obtain⟨d,hd,ed⟩:=ixL (ds:=[.int 9,.int 99,.int 999]) (i:=x1 % 3) (Int.emod_nonneg _ (by decide)) (Int.emod_lt_of_pos _ (by decide))
  have dm:∃m:Int,9<=m/\m<=999/\d=.int m:=by
   simp only[List.mem_cons,List.not_mem_nil,or_false] at hd
   rcases hd with rfl|rfl|rfl
   ·exact⟨9,by decide,by decide,rfl⟩
   ·exact⟨99,by decide,by decide,rfl⟩
   ·exact⟨999,by decide,by decide,rfl⟩
  obtain⟨m,m1,m2,rfl⟩:=dm
  have b0:0<=x0 % m:=Int.emod_nonneg _ (by lia)
  have b1:x0 % m<m:=Int.emod_lt_of_pos _ (by lia)
  have s1:eOp Zz (eC (.int 2)) (eOp Yd (eOp gIx (Zc 0) (eC (.int 0))) (eOp gIx (eLst (Zd (eC (.int 9)) (Zd (eC (.int 99)) (Zd (eC (.int 999)) Zh)))) (eOp Yd (eOp gIx (Zc 0) (eC (.int 1))) (eC (.int 3))))) ([some (S.im (.lst ((x0::x1::x2::r).map D.int))),some (S.im (.int (n:Int)))]++List.replicate 1 none)=.ok (.int (2+x0 % m)) :=
   Zm rfl (Zm (Zm rfl rfl (ixL0 _ _)) (Zm (lst_of (aC rfl (aC rfl (a1 rfl))) rfl) (Zm (Zm rfl rfl (ixL1 _ _ _)) rfl (gM (by decide))) ed) (gM (by lia))) rfl
  generalize x0 % m=u at *
  have nb:0<(n:Int)*(2+u) - 1:=by
   have:(2:Int)*2<=(n:Int)*(2+u):=Int.mul_le_mul (by lia) (by lia) (by decide) (by lia)
   lia
  have nt:(n:Int)*(2+u)<=3*1001:=Int.mul_le_mul (by lia) (by lia) (by lia) (by decide)
  have t0:0<=x2 % ((n:Int)*(2+u) - 1):=Int.emod_nonneg _ (by lia)
  have t1:x2 % ((n:Int)*(2+u) - 1)<(n:Int)*(2+u) - 1:=Int.emod_lt_of_pos _ nb
  have i2:gIx (.lst ((x0::x1::x2::r).map D.int)) (.int 2)=.ok (.int x2):=by
   show(match atI ((x0::x1::x2::r).map D.int) 2 with|some d=>M.ok d|none=>.bad)=_
   rw[List.map_cons,List.map_cons,List.map_cons,atI2]
  have s2:eOp Zz (eC (.int 1)) (eOp Yd (eOp gIx (Zc 0) (eC (.int 2))) (eOp gSub (eOp Yt (Zc 1) (Zc 2)) (eC (.int 1)))) [some (S.im (.lst ((x0::x1::x2::r).map D.int))),some (S.im (.int (n:Int))),some (S.im (.int (2+u)))]=.ok (.int (1+x2 % ((n:Int)*(2+u) - 1))) :=
   Zm rfl (Zm (Zm rfl rfl i2) (Zm (Zm rfl rfl (gT (smI (by lia) (by lia)) (smI (by lia) (by lia)))) rfl rfl) (gM nb)) rfl
  generalize x2 % ((n:Int)*(2+u) - 1)=t at *
  have fr:Fr 9 (1+t) (2+u):=⟨by lia,by have:(10:Nat) ^ 9=1000000000:=rfl;lia,by have:(10:Nat) ^ 9=1000000000:=rfl;lia⟩
  obtain⟨P,Q,e,f2,_,_⟩:=low_fr fr
  refine⟨P,Q,?_,f2⟩
  rw[<-e]
  unfold Yk
  rw[fn2]
  exact Q0 (go (Q7 s1) (Qf (Z4 (aC s2 (a1 rfl)) (f_low fr (by decide)) rfl)))
end Law
set_option maxRecDepth 1000000
set_option maxHeartbeats 4000000
set_option linter.all false
namespace Law
open PySem L2 DL PySem.Builtin PySem.Builtin.Str PySem.StrLaws PySem.NumText
def wordsD (w:List (List Nat)):D:=.lst ((lPr::[97]::w).map fun p=>D.str (mk p))
noncomputable def duePart:DSt->Dk->KE KO:=(kIf (kB (DL.tO (DL.tB (eOp gNe (eCB Ys (Zd (Zc 7) Zh)) (eC (.int 4)))) (DL.tO (DL.tN (DL.tB (Zt Qu (Zd (eOp gIx (Zc 7) (eC (.int 2))) Zh)))) (DL.tN (DL.tB (Zt Qu (Zd (eOp gIx (Zc 7) (eC (.int 3))) Zh))))))) (Q5 8 (kD (eC (.str (Str.ofString "row"))))) (kIf (kB (DL.tO (DL.tN (DL.tB (Zt Yp (Zd (eOp gIx (Zc 7) (eC (.int 2))) (Zd (eC (.int 3)) Zh))))) (DL.tN (DL.tB (Zt Yp (Zd (eOp gIx (Zc 7) (eC (.int 3))) (Zd (eC (.int 2)) Zh))))))) (Q5 8 (kD (eC (.str (Str.ofString "person"))))) kNil))
theorem due_ok (a0 a2 a3 a4 a5 a6:Option S)(r:Dk){w:List (List Nat)}(hw:∀p∈w,p.length<=900000)(hl:w.length<=900000) :
  duePart [a0,none,a2,a3,a4,a5,a6,some (S.im (wordsD w)),some (S.im (.str okS))] r=.ok (.nx [a0,none,a2,a3,a4,a5,a6,some (S.im (wordsD w)),some (S.im (.str (dueW w)))]) r:=by
 have t1:DL.tB (eOp gNe (eCB Ys (Zd (Zc 7) Zh)) (eC (.int 4))) [a0,none,a2,a3,a4,a5,a6,some (S.im (wordsD w)),some (S.im (.str okS))]=.ok (!decide (w.length=2)):=by
  rw[Yu (Zm (lenL_ok (ds:=(lPr::[97]::w).map fun p=>D.str (mk p)) rfl (by simp;lia)) rfl (gNeI _ _))]
  congr 2
  rw[Bool.eq_iff_iff]
  simp
  lia
 unfold duePart
 by_cases h:w.length=2
 ·match w,h with
  |[b,c],_ =>
   rw[show decide ([b,c].length=2)=true from rfl] at t1
   have lb:=hw b (by simp)
   have lc:=hw c (by simp)
   have i2:eOp gIx (Zc 7) (eC (.int 2)) [a0,none,a2,a3,a4,a5,a6,some (S.im (wordsD [b,c])),some (S.im (.str okS))]=.ok (.str (mk b)):=by
    refine Zm rfl rfl ?_
    show(match atI [D.str (mk lPr),D.str (mk [97]),D.str (mk b),D.str (mk c)] 2 with|some d=>M.ok d|none=>.bad)=_
    rw[atI2]
   have i3:eOp gIx (Zc 7) (eC (.int 3)) [a0,none,a2,a3,a4,a5,a6,some (S.im (wordsD [b,c])),some (S.im (.str okS))]=.ok (.str (mk c)):=by
    refine Zm rfl rfl ?_
    show(match atI [D.str (mk lPr),D.str (mk [97]),D.str (mk b),D.str (mk c)] 3 with|some d=>M.ok d|none=>.bad)=_
    rw[atI3]
   have n2:=f_is_number (mk b) (by rw[mk_len];exact lb)
   have n3:=f_is_number (mk c) (by rw[mk_len];exact lc)
   rw[l_mk] at n2 n3
   have c1:=tO_b t1 (tO_b (tN_b (Yu (Z4 (a1 i2) n2 rfl))) (tN_b (Yu (Z4 (a1 i3) n3 rfl))))
   rw[show dueW [b,c]=if Qd b&&Qd c then(if btw (topI b) (botI b) 3&&btw (topI c) (botI c) 2 then okS else perS) else rowS from rfl]
   cases hB:Qd b with
   |false =>
    rw[hB] at c1
    exact kif_t (kB_ok c1) (Q2 (Xk rfl))
   |true =>
   cases hC:Qd c with
   |false =>
    rw[hB,hC] at c1
    exact kif_t (kB_ok c1) (Q2 (Xk rfl))
   |true =>
    rw[hB,hC] at c1
    refine kif_e (kB_ok c1) ?_
    have s2:=f_stands (z:=mk b) (by rw[mk_len];exact lb) (by rw[l_mk];exact hB) (n:=3) (by decide)
    have s3:=f_stands (z:=mk c) (by rw[mk_len];exact lc) (by rw[l_mk];exact hC) (n:=2) (by decide)
    rw[l_mk] at s2 s3
    have c2:=tO_b (tN_b (Yu (Z4 (aC i2 (a1 (rfl:eC (.int 3) _=.ok (.int 3)))) s2 rfl))) (tN_b (Yu (Z4 (aC i3 (a1 (rfl:eC (.int 2) _=.ok (.int 2)))) s3 rfl)))
    have e3:((3:Nat):Int)=3:=rfl
    have e2:((2:Nat):Int)=2:=rfl
    rw[e3,e2] at c2
    cases hb:btw (topI b) (botI b) 3 with
    |false =>
     rw[hb] at c2
     exact kif_t (kB_ok c2) (Q2 (Xk rfl))
    |true =>
    cases hc:btw (topI c) (botI c) 2 with
    |false =>
     rw[hb,hc] at c2
     exact kif_t (kB_ok c2) (Q2 (Xk rfl))
    |true =>
     rw[hb,hc] at c2
     exact kif_f (kB_ok c2)
 ·rw[decide_eq_false h] at t1
  have:dueW w=rowS:=by
   unfold dueW
   split
   ·exact absurd rfl h
   ·rfl
  rw[this]
  exact kif_t (kB_ok (tO_t t1)) (Q2 (Xk rfl))
theorem f_small {z:Str}(hz:z.length<=900000):∃b,Xs [.str z]=.ok (.im (.bl b)):=by
 unfold Xs
 rw[fn1]
 have t:eOp gNinX (eC (.str (Str.ofString "/"))) (Zc 0) ([some (S.im (.str z))]++List.replicate 0 none)=.ok (.bl (!decide (47∈lS z))):=Zm rfl rfl (by rw[sla_s,ninX])
 by_cases h:47∈lS z
 ·rw[decide_eq_true h] at t
  have sp:=Qw h
  cases e:Zl 47 (af 47 (lS z)) with
  |nil=>exact absurd e (Yb _ _)
  |cons p r =>
   rw[e] at sp
   have sx:=eSplit_ok (f:=Zc 0) (g:=eC (.str (Str.ofString "/"))) (sd:=[some (S.im (.str z))]++List.replicate 0 none) (z:=z) (c:=47) rfl (by rw[<-sla_s];rfl) hz (by decide)
   rw[sp] at sx
   have pl:p.length<=900000:=by
    have:=Y3 (c:=47) (l:=lS z) (p:=p) (by rw[sp];simp)
    rw[<-Qn] at this
    lia
   have lk:eCB Ys (Zd (eOp gIx (Xa (Zc 0) (eC (.str (Str.ofString "/")))) (eC (.int 1))) Zh) ([some (S.im (.str z))]++List.replicate 0 none)=.ok (.int ((mk p).length:Int)):=by
    refine cb_ok (a1 (Zm sx rfl (ixL1 _ _ _))) ?_
    show(if(mk p).length<=sizeLine then _ else _)=_
    rw[if_pos (size1 (by rw[mk_len];lia))]
   exact⟨decide (((mk p).length:Int)<4),Q0 (Qf (or_f t (Zm lk rfl rfl)))⟩
 ·rw[decide_eq_false h] at t
  exact⟨true,Q0 (Qf (or_t t))⟩
end Law
set_option maxRecDepth 1000000
set_option maxHeartbeats 4000000
set_option linter.all false
namespace Law
open PySem L2 DL PySem.Builtin PySem.Builtin.Str PySem.StrLaws PySem.NumText
noncomputable def cellBody:DSt->Dk->KE KO:=(Qz (Q5 3 (kD (Zt Y5 (Zd (Zc 2) (Zd (eC (.int 8)) Zh)))))
   (Qz (Q5 4 (kD (Zt Q6 (Zd (Zt Yk (Zd (Zc 3) (Zd (eC (.int 3)) Zh))) Zh))))
   (Qz (Q5 5 (kD (Zt Q6 (Zd (Zt Yk (Zd (eSl (Zc 3) (Qi (eC (.int 3))) Qh) (Zd (eC (.int 2)) Zh))) Zh))))
   (Qz (kIf (kB (DL.tB (eOp gGt (eOp Yd (eOp gIx (Zc 3) (eC (.int 6))) (eC (.int 3))) (eC (.int 0))))) (Q5 4 (kD (Zt F_l_bent (Zd (Zc 4) (Zd (eOp gIx (Zc 3) (eC (.int 7))) Zh))))) kNil)
   (Qz (Q5 6 (kD (eOp Zz (eOp Zz (eOp Zz (eC (.str (Str.ofString "person a "))) (Zc 4)) (eC (.str (Str.ofString " ")))) (Zc 5))))
   (Qz (kIf (kB (DL.tB (eOp gEq (eOp Yd (eOp gIx (Zc 3) (eC (.int 6))) (eC (.int 2))) (eC (.int 1))))) (Q5 6 (kD (eOp Zz (eOp Zz (eOp Zz (eC (.str (Str.ofString "person a "))) (Zc 5)) (eC (.str (Str.ofString " ")))) (Zc 4)))) kNil)
   (Qz (Q5 7 (kD (Xa (Zc 6) (eC (.str (Str.ofString " "))))))
   (Qz (Q5 8 (kD (eC (.str (Str.ofString "ok")))))
   (Qz duePart
   (kIf (kTA (kB (DL.tB (Zt Xs (Zd (Zc 4) Zh)))) (kTV (kOp gNe (Xb Ya (Zd (Zc 6) Zh)) (kD (Zc 8))))) (kRet (kD (eC (.bl false)))) kNil))))))))))
theorem sl3 {f:DSt->M D}{sd:DSt}{ds:List D}(h:f sd=.ok (.lst ds)):eSl f (Qi (eC (.int 3))) Qh sd=.ok (.lst (ds.drop 3)):=by
 unfold eSl
 rw[h,M.bind_ok]
 show(M.ok (some (3:Int))).bind _=_
 rw[M.bind_ok]
 show(M.ok none).bind _=_
 rw[M.bind_ok]
 show M.ok (D.lst (cutD ds (some ((3:Nat):Int)) none))=_
 rw[cut_from]
theorem ixI {es:List Int}{k:Nat}(h:k<es.length):∃i,gIx (.lst (es.map D.int)) (.int (k:Int))=.ok (.int i):=by
 refine⟨es[k],?_⟩
 show(match atI (es.map D.int) (k:Int) with|some d=>M.ok d|none=>.bad)=_
 rw[atI_nat (v:=D.int es[k]) (by rw[List.getElem?_map,List.getElem?_eq_getElem h];rfl)]
theorem cell_ok {h:D}(hh:hall3 h=true){ps:List (Key×D)}(hp:Ppl ps)(c:Int)(a0 b3 b4 b5 b6 b7 b8:Option S) :
  ∃ps' c3 c4 c5 c6 c7 c8,Ppl ps'/\cellBody [a0,none,some (S.im (.int c)),b3,b4,b5,b6,b7,b8] ⟨h,ps⟩=.ok (.nx [a0,none,some (S.im (.int c)),c3,c4,c5,c6,c7,c8]) ⟨h,ps'⟩:=by
 obtain⟨es,el,eo,fN⟩:=f_numbers c 8 (by decide)
 obtain⟨P,Q,fD,fr⟩:=f_drawn (es:=es) eo (by lia) (n:=3) (by decide) (by decide)
 obtain⟨P',Q',fD',fr'⟩:=f_drawn (es:=es.drop 3) (fun d hd=>eo d (List.mem_of_mem_drop hd)) (by rw[List.length_drop];lia) (n:=2) (by decide) (by decide)
 have bd9:∀{x:Int},x.natAbs<=10 ^ 9->x.natAbs<10 ^ 10:=fun h=>Nat.lt_of_le_of_lt h (by decide)
 obtain⟨x,xl,fX⟩:=f_lnum (bd9 fr.top) (bd9 fr.bot)
 obtain⟨y,yl,fY⟩:=f_lnum (bd9 fr'.top) (bd9 fr'.bot)
 obtain⟨i6,e6⟩:=ixI (es:=es) (k:=6) (by lia)
 obtain⟨i7,e7⟩:=ixI (es:=es) (k:=7) (by lia)
 obtain⟨x',xl',fB⟩:=f_bent x xl i7
 generalize hxs:D.lst (es.map D.int)=xs at *
 have s1:Q5 3 (kD (Zt Y5 (Zd (Zc 2) (Zd (eC (.int 8)) Zh)))) [a0,none,some (S.im (.int c)),b3,b4,b5,b6,b7,b8] ⟨h,ps⟩=.ok (.nx [a0,none,some (S.im (.int c)),some (S.im xs),b4,b5,b6,b7,b8]) ⟨h,ps⟩:=by
  subst hxs
  exact Q2 (Xk (Z4 (aC rfl (a1 rfl)) fN rfl))
 have s2:Q5 4 (kD (Zt Q6 (Zd (Zt Yk (Zd (Zc 3) (Zd (eC (.int 3)) Zh))) Zh))) [a0,none,some (S.im (.int c)),some (S.im xs),b4,b5,b6,b7,b8] ⟨h,ps⟩=.ok (.nx [a0,none,some (S.im (.int c)),some (S.im xs),some (S.im (.str x)),b5,b6,b7,b8]) ⟨h,ps⟩:=Q2 (Xk (Z4 (a1 (Z4 (aC rfl (a1 rfl)) fD rfl)) fX rfl))
 have s3:Q5 5 (kD (Zt Q6 (Zd (Zt Yk (Zd (eSl (Zc 3) (Qi (eC (.int 3))) Qh) (Zd (eC (.int 2)) Zh))) Zh))) [a0,none,some (S.im (.int c)),some (S.im xs),some (S.im (.str x)),b5,b6,b7,b8] ⟨h,ps⟩=.ok (.nx [a0,none,some (S.im (.int c)),some (S.im xs),some (S.im (.str x)),some (S.im (.str y)),b6,b7,b8]) ⟨h,ps⟩:=by
  subst hxs
  rw[List.map_drop] at fD'
  exact Q2 (Xk (Z4 (a1 (Z4 (aC (sl3 rfl) (a1 rfl)) fD' rfl)) fY rfl))
 have s4:∃z:Str,z.length<=1000/\kIf (kB (DL.tB (eOp gGt (eOp Yd (eOp gIx (Zc 3) (eC (.int 6))) (eC (.int 3))) (eC (.int 0))))) (Q5 4 (kD (Zt F_l_bent (Zd (Zc 4) (Zd (eOp gIx (Zc 3) (eC (.int 7))) Zh))))) kNil [a0,none,some (S.im (.int c)),some (S.im xs),some (S.im (.str x)),some (S.im (.str y)),b6,b7,b8] ⟨h,ps⟩=.ok (.nx [a0,none,some (S.im (.int c)),some (S.im xs),some (S.im (.str z)),some (S.im (.str y)),b6,b7,b8]) ⟨h,ps⟩:=by
  have t:=Yu (Zm (g:=gGt) (fa:=eOp Yd (eOp gIx (Zc 3) (eC (.int 6))) (eC (.int 3))) (fb:=eC (.int 0)) (sd:=[a0,none,some (S.im (.int c)),some (S.im xs),some (S.im (.str x)),some (S.im (.str y)),b6,b7,b8]) (Zm (Zm rfl rfl e6) rfl (gM (by decide))) rfl (gGtI _ _))
  by_cases q:0<i6 % 3
  ·rw[decide_eq_true q] at t
   exact⟨x',xl',kif_t (kB_ok t) (Q2 (Xk (Z4 (aC rfl (a1 (Zm rfl rfl e7))) fB rfl)))⟩
  ·rw[decide_eq_false q] at t
   exact⟨x,by lia,kif_f (kB_ok t)⟩
 obtain⟨z,zl,s4⟩:=s4
 have lp:preS.length=9:=by decide +kernel
 have lsp:(Str.ofString " ").length=1:=by decide +kernel
 have txt:∀(u v:Str),u.length<=1000->v.length<=1000->∀(f g:DSt->M D) (sd:DSt),f sd=.ok (.str u)->g sd=.ok (.str v)->eOp Zz (eOp Zz (eOp Zz (eC (.str (Str.ofString "person a "))) f) (eC (.str (Str.ofString " ")))) g sd=.ok (.str (preS++u++Str.ofString " " ++ v)):=fun u v hu hv f g sd h1 h2=>by
  refine plus_s (plus_s (plus_s (x:=preS) rfl h1 (by lia)) rfl (by rw[Q9];lia)) h2 (by rw[Q9,Q9];lia)
 have s5:Q5 6 (kD (eOp Zz (eOp Zz (eOp Zz (eC (.str (Str.ofString "person a "))) (Zc 4)) (eC (.str (Str.ofString " ")))) (Zc 5))) [a0,none,some (S.im (.int c)),some (S.im xs),some (S.im (.str z)),some (S.im (.str y)),b6,b7,b8] ⟨h,ps⟩=.ok (.nx [a0,none,some (S.im (.int c)),some (S.im xs),some (S.im (.str z)),some (S.im (.str y)),some (S.im (.str (preS++z++Str.ofString " " ++ y))),b7,b8]) ⟨h,ps⟩:=Q2 (Xk (txt z y zl (by lia) _ _ _ rfl rfl))
 have s6:∃u v:Str,u.length<=1000/\v.length<=1000/\kIf (kB (DL.tB (eOp gEq (eOp Yd (eOp gIx (Zc 3) (eC (.int 6))) (eC (.int 2))) (eC (.int 1))))) (Q5 6 (kD (eOp Zz (eOp Zz (eOp Zz (eC (.str (Str.ofString "person a "))) (Zc 5)) (eC (.str (Str.ofString " ")))) (Zc 4)))) kNil [a0,none,some (S.im (.int c)),some (S.im xs),some (S.im (.str z)),some (S.im (.str y)),some (S.im (.str (preS++z++Str.ofString " " ++ y))),b7,b8] ⟨h,ps⟩=.ok (.nx [a0,none,some (S.im (.int c)),some (S.im xs),some (S.im (.str z)),some (S.im (.str y)),some (S.im (.str (preS++u++Str.ofString " " ++ v))),b7,b8]) ⟨h,ps⟩:=by
  have t:=Yu (Zm (g:=gEq) (fa:=eOp Yd (eOp gIx (Zc 3) (eC (.int 6))) (eC (.int 2))) (fb:=eC (.int 1)) (sd:=[a0,none,some (S.im (.int c)),some (S.im xs),some (S.im (.str z)),some (S.im (.str y)),some (S.im (.str (preS++z++Str.ofString " " ++ y))),b7,b8]) (Zm (Zm rfl rfl e6) rfl (gM (by decide))) rfl (gEqI _ _))
  by_cases q:i6 % 2=1
  ·rw[decide_eq_true q] at t
   exact⟨y,z,by lia,zl,kif_t (kB_ok t) (Q2 (Xk (txt y z (by lia) zl _ _ _ rfl rfl)))⟩
  ·rw[decide_eq_false q] at t
   exact⟨z,y,zl,by lia,kif_f (kB_ok t)⟩
 obtain⟨u,v,ul,vl,s6⟩:=s6
 have rw':=row_words u v
 have rl:(preS++u++Str.ofString " " ++ v).length<=3000:=by rw[Q9,Q9,Q9];lia
 generalize preS++u++Str.ofString " " ++ v=row at *
 generalize hW:Zl 32 (lS u++32::lS v)=W at *
 have s7:Q5 7 (kD (Xa (Zc 6) (eC (.str (Str.ofString " "))))) [a0,none,some (S.im (.int c)),some (S.im xs),some (S.im (.str z)),some (S.im (.str y)),some (S.im (.str row)),b7,b8] ⟨h,ps⟩=.ok (.nx [a0,none,some (S.im (.int c)),some (S.im xs),some (S.im (.str z)),some (S.im (.str y)),some (S.im (.str row)),some (S.im (wordsD W)),b8]) ⟨h,ps⟩:=by
  have:=eSplit_ok (f:=Zc 6) (g:=eC (.str (Str.ofString " "))) (sd:=[a0,none,some (S.im (.int c)),some (S.im xs),some (S.im (.str z)),some (S.im (.str y)),some (S.im (.str row)),b7,b8]) (z:=row) (c:=32) rfl (by rw[<-sp_s];rfl) (by lia) (by decide)
  rw[rw'] at this
  exact Q2 (Xk this)
 have s8:Q5 8 (kD (eC (.str (Str.ofString "ok")))) [a0,none,some (S.im (.int c)),some (S.im xs),some (S.im (.str z)),some (S.im (.str y)),some (S.im (.str row)),some (S.im (wordsD W)),b8] ⟨h,ps⟩=.ok (.nx [a0,none,some (S.im (.int c)),some (S.im xs),some (S.im (.str z)),some (S.im (.str y)),some (S.im (.str row)),some (S.im (wordsD W)),some (S.im (.str okS))]) ⟨h,ps⟩:=Q2 (Xk rfl)
 have wl:∀p∈W,p.length<=900000:=fun p hp=>by
  have:=Y3 (c:=32) (l:=lS row) (p:=p) (by rw[rw'];simp[hp])
  rw[<-Qn] at this
  lia
 have wn:W.length<=900000:=by
  have:=splitL_len 32 (lS row)
  rw[rw',<-Qn] at this
  simp at this
  lia
 have s9:=due_ok a0 (some (S.im (.int c))) (some (S.im xs)) (some (S.im (.str z))) (some (S.im (.str y))) (some (S.im (.str row))) ⟨h,ps⟩ wl wn
 obtain⟨ps',hp',fA⟩:=f_asked hh hp (z:=row) (by lia) rw'
 obtain⟨b,fS⟩:=f_small (z:=z) (by lia)
 have t10:∃ps'',Ppl ps''/\kTA (kB (DL.tB (Zt Xs (Zd (Zc 4) Zh)))) (kTV (kOp gNe (Xb Ya (Zd (Zc 6) Zh)) (kD (Zc 8)))) [a0,none,some (S.im (.int c)),some (S.im xs),some (S.im (.str z)),some (S.im (.str y)),some (S.im (.str row)),some (S.im (wordsD W)),some (S.im (.str (dueW W)))] ⟨h,ps⟩=.ok false ⟨h,ps''⟩:=by
  unfold kTA
  rw[kB_ok (Yu (Z4 (a1 rfl) fS rfl))]
  cases b with
  |false=>exact⟨ps,hp,rfl⟩
  |true =>
   refine⟨ps',hp',?_⟩
   show kTV (kOp gNe (Xb Ya (Zd (Zc 6) Zh)) (kD (Zc 8))) _ _=_
   unfold kTV kOp
   have ca:Xb Ya (Zd (Zc 6) Zh) [a0,none,some (S.im (.int c)),some (S.im xs),some (S.im (.str z)),some (S.im (.str y)),some (S.im (.str row)),some (S.im (wordsD W)),some (S.im (.str (dueW W)))] ⟨h,ps⟩=.ok (.str (dueW W)) ⟨h,ps'⟩:=fA
   rw[ca]
   show((KE.of (gNe (.str (dueW W)) (.str (dueW W))) ⟨h,ps'⟩:KE D).bind _)=_
   rw[gNeS,decide_eq_true rfl]
   rfl
 obtain⟨ps'',hp'',t10⟩:=t10
 refine⟨ps'',some (S.im xs),some (S.im (.str z)),some (S.im (.str y)),some (S.im (.str row)),some (S.im (wordsD W)),some (S.im (.str (dueW W))),hp'',?_⟩
 unfold cellBody
 exact kgo s1 (kgo s2 (kgo s3 (kgo s4 (kgo s5 (kgo s6 (kgo s7 (kgo s8 (kgo s9 (kif_f t10)))))))))
theorem loop_ok {h:D}(hh:hall3 h=true)(a0:Option S):∀(cs:List Int) (ps:List (Key×D)) (b2 b3 b4 b5 b6 b7 b8:Option S),Ppl ps ->
  ∃sd' r',kLoop 2 cellBody (cs.map D.int) [a0,none,b2,b3,b4,b5,b6,b7,b8] ⟨h,ps⟩=.ok (.nx sd') r'
 |[],ps,b2,b3,b4,b5,b6,b7,b8,_=>⟨_,_,rfl⟩
 |c::r,ps,b2,b3,b4,b5,b6,b7,b8,hp=>by
  obtain⟨ps',c3,c4,c5,c6,c7,c8,hp',e⟩:=cell_ok hh hp c a0 b3 b4 b5 b6 b7 b8
  obtain⟨sd',r',ih⟩:=loop_ok hh a0 r ps' (some (S.im (.int c))) c3 c4 c5 c6 c7 c8 hp'
  refine⟨sd',r',?_⟩
  rw[List.map_cons,<-ih]
  show(cellBody [a0,none,some (S.im (.int c)),b3,b4,b5,b6,b7,b8] ⟨h,ps⟩).bind _=_
  rw[e]
  rfl
def hallOf:M S->D
 |.ok (.im d)=>d
 |_=>.non
noncomputable def d11:D:=hallOf (F_box [.int 1,.int 1])
theorem box11:F_box [.int 1,.int 1]=.ok (.im d11):=by
 have h:(match F_box [.int 1,.int 1] with | .ok (.im _)=>true|_=>false)=true:=by decide +kernel
 unfold d11
 split at h
 ·rename_i d e;rw[e];rfl
 ·cases h
def sayT:KE D->Bool
 |.ok (.str w) r=>decide (w=okS)&&(r.people.isEmpty&&hall3 r.hall)
 |_=>false
theorem say_box:sayT (Z6 ⟨hallOf (F_box [.int 1,.int 1]),[]⟩ [.str (Str.ofString "box 3 2")])=true:=by decide +kernel
theorem say_ok:∃h,hall3 h=true/\Z6 ⟨d11,[]⟩ [.str (Str.ofString "box 3 2")]=.ok (.str okS) ⟨h,[]⟩:=by
 have t:=say_box
 show ∃h,hall3 h=true/\Z6 ⟨hallOf (F_box [.int 1,.int 1]),[]⟩ [.str (Str.ofString "box 3 2")]=.ok (.str okS) ⟨h,[]⟩
 unfold sayT at t
 split at t
 ·rename_i w r e
  rw[Bool.and_eq_true,Bool.and_eq_true,decide_eq_true_eq] at t
  obtain⟨t1,t2,t3⟩:=t
  refine⟨r.hall,t3,?_⟩
  rw[e,t1]
  congr 1
  cases r with
  |mk h p=>cases p with
   |nil=>rfl
   |cons a b=>cases t2
 ·cases t
theorem desk_ok {j:Nat}{F:List D->M S}{g:DSt->Dk->KE KO}{sd:DSt}{d v:D}{r':Dk}(h1:noOwn sd=true)(h2:j<sd.length)(hF:F [.int 1,.int 1]=.ok (.im d))(hg:g (sd.set j none) ⟨d,[]⟩=.ok (.rt v) r'):sDesk j F g sd=.ok (.rt (.im v)):=by
 unfold sDesk
 rw[if_pos (by rw[h1,decide_eq_true h2];rfl),hF]
 dsimp only
 rw[hg]
theorem law_true (ns:List Int)(hn:ns.length<=63):F_law [.lst (ns.map D.int)]=.ok (.im (.bl true)):=by
 obtain⟨h,hh,fs⟩:=say_ok
 obtain⟨sd',r',lp⟩:=loop_ok hh (some (S.im (.lst (ns.map D.int)))) (ns.take 40) [] none none none none none none none (.inl rfl)
 unfold F_law
 rw[fn1]
 refine Q0 ?_
 have t1:kIf (kTV (kOp gNe (Xb Z6 (Zd (eC (.str (Str.ofString "box 3 2"))) Zh)) (kD (eC (.str (Str.ofString "ok")))))) (kRet (kD (eC (.bl false)))) kNil [some (S.im (.lst (ns.map D.int))),none,none,none,none,none,none,none,none] ⟨d11,[]⟩=.ok (.nx [some (S.im (.lst (ns.map D.int))),none,none,none,none,none,none,none,none]) ⟨h,[]⟩:=by
  refine kif_f ?_
  unfold kTV kOp
  have ca:Xb Z6 (Zd (eC (.str (Str.ofString "box 3 2"))) Zh) [some (S.im (.lst (ns.map D.int))),none,none,none,none,none,none,none,none] ⟨d11,[]⟩=.ok (.str okS) ⟨h,[]⟩:=fs
  rw[ca]
  show((KE.of (gNe (.str okS) (.str okS)) ⟨h,[]⟩:KE D).bind _)=_
  rw[gNeS,decide_eq_true rfl]
  rfl
 have t2:kFor 2 (iSeq (eSl (Zc 0) Qh (Qi (eC (.int 40))))) cellBody [some (S.im (.lst (ns.map D.int))),none,none,none,none,none,none,none,none] ⟨h,[]⟩=.ok (.nx sd') r':=by
  have sl:eSl (Zc 0) Qh (Qi (eC (.int 40))) [some (S.im (.lst (ns.map D.int))),none,none,none,none,none,none,none,none]=.ok (.lst ((ns.take 40).map D.int)):=by
   show M.ok (D.lst (cutD (ns.map D.int) none (some ((40:Nat):Int))))=_
   congr 2
   unfold cutD
   rw[HT.sIx_none,HT.sIx_nat,List.drop_zero,Nat.sub_zero,List.map_take]
   rcases Nat.le_total 40 (ns.map D.int).length with h|h
   ·rw[Nat.min_eq_left h]
   ·rw[Nat.min_eq_right h,List.take_of_length_le (Nat.le_refl _),List.take_of_length_le h]
  unfold kFor
  rw[seq_l sl]
  exact lp
 exact desk_ok rfl (by simp) box11 (kgo t1 (kgo t2 (kret_ok (Xk (r:=r') (sd:=sd') (f:=eC (.bl true)) (d:=.bl true) rfl))))
end Law
namespace PySem.W.Fast
def tw7783899677222277690:=0
def tw15114708849574691925:=0
def tw3370982152538818543:=0
def tw9665703793640663447:=0
def tw1821374658239238747:=0
def tw3894575684103880261:=0
def tw7123786495630846753:=0
def tw8372946683292700015:=0
def tw9565422163833824748:=0
def tw14936222475877020010:=0
def tw7062749908140502836:=0
def tw11683133224248174312:=0
def tw10032019817466772998:=0
def tw7535132200592950712:=0
def tw14430927669831035406:=0
def tw13822382869225708517:=0
def tw14360227172544831011:=0
def tw11421349360463032531:=0
def tw7612396032126243986:=0
def tw2547780728967652974:=0
def tw2041641954134680488:=0
def tw17470341445967455840:=0
def tw7622696598823444145:=0
def tw6055123078033688117:=0
def tw6078422886544947142:=0
def tw11986604861063632597:=0
def tw8433974481956200080:=0
def tw406793608683782441:=0
def tw10552519678063706307:=0
def tw8943833497853541257:=0
def tw3521368012927571914:=0
def tw7394794751184942170:=0
def tw9549917465330258997:=0
def tw4162966745078972972:=0
def tw10786293201218745182:=0
def tw10024819027866108009:=0
def tw8181433077303187855:=0
def tw1220909634665652747:=0
def tw3930555651493783785:=0
def tw8688712641867853671:=0
def tw9592057857033102574:=0
def tw3065203380055672699:=0
def tw11608451289454144843:=0
def tw998242769107275664:=0
def tw3514981883132753034:=0
def tw540238529787931003:=0
def tw6493745567075838140:=0
def tw10118633304161124751:=0
def tw1480410870991335301:=0
def tw7274605095554033135:=0
def tw5298568975192549320:=0
def tw86990488580324907:=0
def tw14478041704251678889:=0
def tw1515076877686250101:=0
def tw13896696716314589618:=0
def tw6191850794717340321:=0
def tw9976421975044143430:=0
def tw1597658738911707280:=0
def tw11087907740660440434:=0
def tw9513242261322784101:=0
def tw4230416022317179269:=0
def tw9807746128460797237:=0
def tw14359555562607244036:=0
def tw6326517289830738448:=0
def tw11219115726048662837:=0
def tw18399629552049377826:=0
def tw13062885478274576604:=0
def tw6082143971626315764:=0
def tw4558191029752141230:=0
def tw12166554890610091706:=0
def tw4638125619003173585:=0
def tw14122138661077094760:=0
def tw15817584892235706137:=0
def tw11918819066858121464:=0
def tw12810443270451904565:=0
def tw11906017817338255919:=0
def tw8557935469644445700:=0
def tw11239046987962345983:=0
def tw18110033059076782269:=0
def tw7129566685585033894:=0
def tw9722241522991797464:=0
def tw4623469621727271624:=0
def tw12459562291983369619:=0
def tw1591986943088278052:=0
def tw8218013928071318929:=0
def tw9005764791003128496:=0
def tw10192958831676148020:=0
def tw3252600198240438670:=0
def tw4483507135163501643:=0
def tw1510678941338574032:=0
def tw17429880102499138213:=0
def tw13913705244407276415:=0
def tw6846508232081378186:=0
def tw13015168591385424854:=0
def tw18073795895544698743:=0
def tw2300166921180977715:=0
def tw10791843091653094078:=0
def tw4020054308878340164:=0
def tw9742041059497246239:=0
def tw15090887074263208235:=0
def tw64408083860059996:=0
def tw15020452831404541885:=0
def tw15089470539238533561:=0
def tw17021773325436851053:=0
def tw4035897273793846201:=0
def tw7856599183822043036:=0
def tw5122940795786124193:=0
def tw5790722354990803341:=0
def tw9683731836620721075:=0
def tw16458798104820924359:=0
def tw3009787532180098318:=0
def tw9054129761243248756:=0
def tw11962639372868114273:=0
def tw15374899012989595361:=0
def tw759057335441717823:=0
def tw12017715678770611187:=0
def tw3490302402042131953:=0
def tw790733992587766769:=0
def tw9269854310409393460:=0
def tw7219363040285725194:=0
def tw11607230104030798120:=0
def tw16594927900741029819:=0
def tw14257812825272441606:=0
def tw16096671357376468977:=0
def tw9853407836222736436:=0
def tw17199784270532455931:=0
def tw15781641431965761780:=0
def tw3599801034511229370:=0
def tw11680832678077826212:=0
def tw5482539921025341212:=0
def tw15403544614421189235:=0
def tw5802866926184150536:=0
def tw9237721414573074383:=0
def tw3130123538452723827:=0
def tw9274420538085612275:=0
def tw14641097574002039499:=0
def tw16272666765982742653:=0
def tw14842568263208218583:=0
def tw5641467097840738929:=0
def tw8758972658196783992:=0
def tw8184509214655338253:=0
def tw13728395240641390252:=0
def tw2739905700549385772:=0
def tw16294787185178149243:=0
def tw9388065105305232269:=0
def tw17948666405924759151:=0
def tw3549313550918041013:=0
def tw11986606606248961315:=0
def tw17150767613528539027:=0
def tw2386935612739804123:=0
def tw689099420506131422:=0
def tw10139526737453400063:=0
def tw17588857071560423633:=0
def tw18301349415491244789:=0
def tw1905387737537865033:=0
def tw17604581364803715496:=0
def tw1877313973716831535:=0
def tw10483580227626244111:=0
def tw15073980757100036505:=0
def tw6119508742495477988:=0
def tw4381438835100581498:=0
def tw495536441416049774:=0
def tw3331385573426088536:=0
def tw2404479688421330815:=0
def tw6983677226906974159:=0
def tw11243124013227850302:=0
def tw14234279257453597974:=0
def tw10684313591860472431:=0
def tw8098864356209764622:=0
def tw18009264071737917274:=0
def tw5795044120622943986:=0
def tw8833246798469191920:=0
def tw5526225588215294648:=0
def tw11302021012701482778:=0
def tw5350618929102074154:=0
def tw11399867375948846496:=0
def tw4849242838829889375:=0
def tw16295189651667886108:=0
def tw3738512474635347065:=0
def tw12516190986198750214:=0
def tw12766780344389967854:=0
def tw9660292289653623672:=0
def tw12214719300556097626:=0
def tw10010102540466415844:=0
def tw13058029716687868400:=0
def tw11604279460101904378:=0
def tw4342790116054146243:=0
def tw17626765579737438601:=0
def tw13731258272275667912:=0
def tw314153944264122049:=0
def tw6640350027080895505:=0
def tw7890450438275657925:=0
def tw454710919486803031:=0
def tw10721116977078247220:=0
def tw111300120093210257:=0
def tw13309402550973444482:=0
def tw9427326474152795780:=0
def tw11416994249189887403:=0
def tw3479720725825268623:=0
def tw5384752100232268877:=0
def tw1542366564454715639:=0
def tw2201350277194233082:=0
def tw4904545190730270313:=0
def tw11914420511825037393:=0
def tw15103297448813071708:=0
def tw5753977886929055436:=0
def tw14214109453647422670:=0
def tw7784535481271647216:=0
def tw17579920522807112892:=0
def tw1275020037786212436:=0
def tw18188985333909840360:=0
def tw14636246389170299293:=0
def tw1557169522656193523:=0
def tw1822328050962109236:=0
def tw3221297901695466016:=0
def tw6256467171778226804:=0
def tw10840869063114770266:=0
def tw9405535371857485993:=0
def tw4600861974464349699:=0
def tw10589696340872315477:=0
def tw16225421351717189933:=0
def tw14220222185578875847:=0
def tw2841583660435364931:=0
def tw8913590311980696136:=0
def tw6050518818761331404:=0
def tw7262281011665550718:=0
def tw817565861680064666:=0
def tw16891317740611445771:=0
def tw7174904796996945033:=0
def tw3291696091084168018:=0
def tw8437571570729172659:=0
def tw1465327906418888495:=0
def tw18286544933016937107:=0
def tw17969806279636836834:=0
def tw10434720476123419308:=0
def tw9460298366825318189:=0
def tw15777489157220684333:=0
def tw8371888699316736315:=0
def tw10678817126500499251:=0
def tw8791744356444996735:=0
def tw12571536444998271259:=0
def tw4141632410506561396:=0
def tw18280208843116581070:=0
def tw12364682068143032485:=0
def tw5058531745490775209:=0
def tw15374539323229858215:=0
def tw1302961157021901190:=0
def tw7745659770006282801:=0
def tw8288752911979751821:=0
def tw3002830475604505137:=0
def tw1617268859357243163:=0
def tw11588086603491011871:=0
def tw16336566564074430404:=0
def tw1646238764950549059:=0
def tw14169199850857411322:=0
def tw5838711323276063704:=0
def tw6365073472014536957:=0
def tw222199127482076633:=0
def tw2492659970953813006:=0
def tw1537473957854861423:=0
def tw416870292960532650:=0
def tw7841312591356822506:=0
def tw10810783378172702794:=0
def tw15565228035038701146:=0
def tw4658402874912182207:=0
def tw4348017193837346746:=0
def tw3422980864071244765:=0
def tw10981448380719455280:=0
def tw878975619281271053:=0
def tw3273558747923768195:=0
def tw11998396070388512287:=0
def tw12335794323003949524:=0
def tw17548625481253825135:=0
def tw74134509764783154:=0
def tw7124446909701419673:=0
def tw6307167897704801618:=0
def tw1541157988921208746:=0
def tw5513607349746630337:=0
def tw201717756752073896:=0
def tw4113518808528299598:=0
def tw15055016099295199481:=0
def tw13664434616386600404:=0
def tw6231126766378551864:=0
def tw2866353385574277332:=0
def tw16461951972825914337:=0
def tw14713443660852024776:=0
def tw561313218943333041:=0
def tw11762789543737110356:=0
def tw1328095577953848581:=0
def tw12325867645607584425:=0
def tw18300160249043383308:=0
def tw1718275869963145067:=0
def tw9130285003789197193:=0
def tw12012849021749419453:=0
def tw14484760917929039575:=0
def tw4430656935604728697:=0
def tw16701798347926893326:=0
def tw6971600032320381183:=0
def tw8146692221925490755:=0
def tw14269927548174121547:=0
def tw17742379898475167318:=0
def tw11749363133689148496:=0
def tw3519053623810998976:=0
def tw2004237778084081525:=0
def tw6502546170575789200:=0
def tw6716242584283653454:=0
def tw2498894749347602391:=0
def tw1853449134970942794:=0
def tw3270093278255479390:=0
def tw13046792865942631069:=0
def tw8807832523248199759:=0
def tw14201331026076263795:=0
def tw14786912909047506754:=0
def tw14649802482744378446:=0
def tw15165724535080936798:=0
def tw10000409174102625531:=0
def tw4641104868804016649:=0
def tw17299114660656587512:=0
def tw5361693721515122912:=0
def tw11421490705414937992:=0
def tw5433524631114557794:=0
def tw5847269139059413618:=0
def tw11980372264546655421:=0
def tw15629027702466131785:=0
def tw7965942132739038763:=0
def tw7740041226732426478:=0
def tw6796117585459366266:=0
def tw17239387125907446070:=0
def tw17009181554905752659:=0
def tw424303240236789538:=0
def tw6052519939863603153:=0
def tw2814814230112911040:=0
def tw7820341845582732249:=0
def tw3829100398042425758:=0
def tw1529478989062045545:=0
def tw7057857897432902530:=0
def tw3552957921833388646:=0
def tw11491778921971516394:=0
def tw8897281146412625220:=0
def tw12891530834671020845:=0
def tw7030866696498917791:=0
def tw10669277557461796725:=0
def tw13009927643420752158:=0
def tw1992333022543907892:=0
def tw2858153637697090861:=0
def tw6197417067932235834:=0
def tw6712440064027437753:=0
def tw5998065839107349105:=0
def tw13970323435516332891:=0
def tw16234870064261660433:=0
def tw4967391730308877632:=0
def tw14132325158800766038:=0
def tw3526231232484595147:=0
def tw14506270368858349909:=0
def tw1756552191176851683:=0
def tw6498704982709256670:=0
def tw6123279590608383939:=0
def tw10960365860044209791:=0
def tw3336178866656259992:=0
def tw5989671527833251051:=0
def tw15898684536306402984:=0
def tw3421185276031009421:=0
def tw1740836360232018079:=0
def tw16449366951132352750:=0
def tw4017480836697132810:=0
def tw14846037550649986701:=0
def tw3734871964720141147:=0
def tw5590945482565084163:=0
def tw13757656263635312470:=0
def tw7001881931335377533:=0
def tw158595046488328815:=0
def tw17690861751834323324:=0
def tw5449895089462358863:=0
def tw10773946648888661608:=0
def tw7007098020817741076:=0
def tw16474259140021627970:=0
def tw15942047429270499135:=0
def tw2325255079621070964:=0
def tw6926752432292012107:=0
def tw932137241846039439:=0
def tw1326943549327485097:=0
def tw8766438808658576835:=0
def tw17586761244493067274:=0
def tw13648591666841762155:=0
def tw5606124994642454321:=0
def tw2891175739924805828:=0
def tw10339311204558600444:=0
def tw2499763235542003332:=0
def tw12472504851040098493:=0
def tw17612837352140201358:=0
def tw6812125103757486848:=0
def tw6322020536528189700:=0
def tw14581899506438759525:=0
def tw7736337862550552030:=0
def tw16440924696330984410:=0
def tw8147106780004183812:=0
def tw3373836420444825561:=0
def tw814346067711064723:=0
def tw11726508664388955437:=0
def tw9380978471439113878:=0
def tw6047713657666315129:=0
def tw7269369597299249026:=0
def tw16946991793337843221:=0
def tw15450436400549207862:=0
def tw15219849022607616757:=0
def tw10202480141589651120:=0
def tw4030413440964998862:=0
def tw3827609986109736058:=0
def tw3945630993199582570:=0
def tw3962652585369663684:=0
def tw15736578083468810272:=0
def tw16296940167791059859:=0
def tw9643211241251890831:=0
def tw17202770177963782184:=0
def tw4182736575155873750:=0
def tw7079657532101966098:=0
def tw15961423113699168451:=0
def tw230115748137789423:=0
def tw3648774942719813230:=0
def tw9123785236787285981:=0
def tw3581874453745416815:=0
def tw7924996683495327381:=0
def tw15199370215593405519:=0
def tw1631075074648118106:=0
def tw9440617711413717196:=0
def tw15185637428862084603:=0
def tw5703411747251914009:=0
def tw16715802213667945773:=0
def tw7250016387043678390:=0
def tw5315805600036358565:=0
end PySem.W.Fast
open PySem PySem.W PyProof.Rows
-- LAST
set_option maxRecDepth 100000 in
set_option maxHeartbeats 0 in
theorem PySem.Challenge.cw_selfsight_k53_whole_numbers_by_texts_holds : PySem.Challenge.rw_selfsight_k53_whole_numbers_by_texts.Holds := by
  w_on; o_law; k_head; (case hw => w_witness2)
  k_fill
  refine Law.walk (l := PySem.Challenge.rw_selfsight_k53_whole_numbers_by_texts) rfl rfl Law.law_true (fun w h Y => PySem.W.km_in_of Y) ?F
  case F =>
    intro w mg fa h KX G hmg
    refine' Law.all_mk KX G hmg ?t0 ?t1 ?t2 ?t3 ?t4 ?t5 ?t6 ?t7 ?t8 ?t9 ?t10 ?t11 ?t12 ?t13 ?t14 ?t15 ?t16 ?t17 ?t18 ?t19 ?t20 ?t21 ?t22 ?t23 ?t24 ?t25 ?t26 ?t27 ?t28 ?t29 ?t30 ?t31 ?t32 ?t33 ?t34 ?t35 ?t36 ?t37 ?t38 ?t39 ?t40 ?t41 ?t42 ?t43 ?t44 ?t45 ?t46 ?t47 ?t48 ?t49 ?t50 ?t51 ?t52 ?t53 ?t54 ?t55 ?t56 ?t57 ?t58 ?t59 ?t60 ?t61 ?t62 ?t63 ?t64
    case t0 | t1 | t2 | t3 | t4 | t5 | t6 | t7 | t8 | t9 | t10 | t11 | t12 | t13 | t14 | t15 | t16 | t17 | t18 | t19 | t20 | t21 | t22 | t23 | t24 | t25 | t26 | t27 | t28 | t29 | t30 | t31 | t32 | t33 | t34 => refine' DL.dn_mk KX G ?a ?l ?c ?k; (case a | l | c | k => k_is)
    case t35 => refine' DL.dsk_mk KX G ?ya ?yb ?yc ?yd ?ye ?yf ?yg ?yh ?yi; (case ya | yb | yc | yd | ye | yf | yg | yh | yi => k_is)
    case t36 | t37 => refine' DL.mm_mk ?a ?n ?l ?c ?k; (case a | n | l | c | k => k_is)
    case t38 => refine' DL.xm_mk KX G ?xa ?xd ?xi ?xl ?xc ?xk ?xp ?xf ?xn ?xe ?xx ?xt ?xh; (case xa | xd | xi | xl | xc | xk | xp | xf | xn => k_is); (case xe | xx | xt | xh => kernel_rfl)
    case t39 | t40 => refine' DL.xq_mk KX G ?xa ?xp ?xe; (case xa | xp => k_is); (case xe => kernel_rfl)
    case t41 => refine' DL.x2_mk KX G ?xa ?xb ?xc ?xd ?xe; (case xa | xb => k_is); (case xc | xd | xe => kernel_rfl)
    case t42 | t43 | t44 | t45 | t46 | t47 | t48 | t49 | t50 | t51 | t52 | t53 | t54 | t55 | t56 | t57 | t58 => k_is
    case t59 => kernel_rfl
    case t60 | t61 => k_is
    case t62 => refine' DL.dkg_mk KX G ?da ?dl ?de ?dn ?ds; (case da | dl => k_is); (case de => exact ⟨rfl, ⟨_, rfl⟩, (fun x hx => ⟨_, rfl, by cases hx; first | (show PySem.W.nsIn _ _ _ = _; k_is) | kernel_rfl | rfl⟩), rfl, ⟨_, rfl⟩, (fun x hx => ⟨_, rfl, by cases hx; first | (show PySem.W.nsIn _ _ _ = _; k_is) | kernel_rfl | rfl⟩), rfl, ⟨_, rfl⟩, (fun x hx => by cases hx), rfl, ⟨_, rfl⟩, (fun x hx => ⟨_, rfl, by cases hx; first | (show PySem.W.nsIn _ _ _ = _; k_is) | kernel_rfl | rfl⟩), rfl, ⟨_, rfl⟩, (fun x hx => by cases hx), rfl, ⟨_, rfl⟩, (fun x hx => by cases hx), rfl, ⟨_, rfl⟩, (fun x hx => by cases hx), trivial⟩); (case dn => decide +kernel); (case ds => rfl)
    case t63 => refine' DL.dkg_mk KX G ?da ?dl ?de ?dn ?ds; (case da | dl => k_is); (case de => exact ⟨rfl, ⟨_, rfl⟩, (fun x hx => by cases hx), rfl, ⟨_, rfl⟩, (fun x hx => by cases hx), rfl, ⟨_, rfl⟩, (fun x hx => ⟨_, rfl, by cases hx; first | (show PySem.W.nsIn _ _ _ = _; k_is) | kernel_rfl | rfl⟩), rfl, ⟨_, rfl⟩, (fun x hx => ⟨_, rfl, by cases hx; first | (show PySem.W.nsIn _ _ _ = _; k_is) | kernel_rfl | rfl⟩), rfl, ⟨_, rfl⟩, (fun x hx => by cases hx), rfl, ⟨_, rfl⟩, (fun x hx => by cases hx), rfl, ⟨_, rfl⟩, (fun x hx => by cases hx), rfl, ⟨_, rfl⟩, (fun x hx => by cases hx), rfl, ⟨_, rfl⟩, (fun x hx => by cases hx), rfl, ⟨_, rfl⟩, (fun x hx => by cases hx), rfl, ⟨_, rfl⟩, (fun x hx => by cases hx), rfl, ⟨_, rfl⟩, (fun x hx => by cases hx), rfl, ⟨_, rfl⟩, (fun x hx => by cases hx), trivial⟩); (case dn => decide +kernel); (case ds => rfl)
    case t64 => refine' DL.dkg_mk KX G ?da ?dl ?de ?dn ?ds; (case da | dl => k_is); (case de => exact ⟨rfl, ⟨_, rfl⟩, (fun x hx => by cases hx), rfl, ⟨_, rfl⟩, (fun x hx => ⟨_, rfl, by cases hx; kernel_rfl⟩), rfl, ⟨_, rfl⟩, (fun x hx => ⟨_, rfl, by cases hx; kernel_rfl⟩), rfl, ⟨_, rfl⟩, (fun x hx => by cases hx), rfl, ⟨_, rfl⟩, (fun x hx => by cases hx), rfl, ⟨_, rfl⟩, (fun x hx => by cases hx), rfl, ⟨_, rfl⟩, (fun x hx => by cases hx), rfl, ⟨_, rfl⟩, (fun x hx => by cases hx), rfl, ⟨_, rfl⟩, (fun x hx => by cases hx), rfl, ⟨_, rfl⟩, (fun x hx => by cases hx), rfl, ⟨_, rfl⟩, (fun x hx => by cases hx), rfl, ⟨_, rfl⟩, (fun x hx => by cases hx), trivial⟩); (case dn => decide +kernel); (case ds => rfl)

