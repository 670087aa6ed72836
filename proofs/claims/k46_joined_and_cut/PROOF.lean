import PyProof.Rows.All
import Wide.All
import OpenK.AllK
import Wide.FinOn
import Lean
import PyProof.EqAt
import PyProof.EqKinds
import PyProof.TupleCall
import PyProof.NeKinds
import PyProof.NsDelKeeps
import PyProof.ExcArgs
import PyProof.ExcAttrAll.ValueError
import PyProof.Rows.SortRunsK
import PyProof.CompUse
import PySem.Challenge.RW_selfsight_k46_joined_and_cut
set_option Elab.async false
set_option linter.all false
set_option maxRecDepth 100000
namespace L2
open PySem PySem.Spec PyProof.Rows
abbrev Key:=Sum Int Str
def keyIs:Key->Value->Bool
 |.inl k,v=>Value.isInt k v
 |.inr x,v=>Value.isStrOf x v
def keyH (w:World):Key->Int
 |.inl k=>hashInt k
 |.inr x=>hashStr w x
theorem Qy:∀{k:Key} {v:Value},keyIs k v=true->(∃i t,k=Sum.inl i/\v=Value.int i t)\/(∃x t,k=Sum.inr x/\v=Value.str x t)
 |.inl i,v,h=>by
  obtain⟨t,e⟩:=Value.isInt_shape (k:=i) (v:=v) h
  exact .inl ⟨i,t,rfl,e⟩
 |.inr x,v,h=>by
  obtain⟨t,e⟩:=Value.isStrOf_shape (x:=x) (v:=v) h
  exact .inr ⟨x,t,rfl,e⟩
theorem keyIs_int (i:Int)(t:Tok):keyIs (.inl i) (.int i t)=true:=by simp[keyIs,Value.isInt]
theorem keyIs_str (x:Str)(t:Tok):keyIs (.inr x) (.str x t)=true:=by simp[keyIs,Value.isStrOf]
theorem key_ll (a b:Int):decide ((Sum.inl a:Key)=Sum.inl b)=(a==b):=by
 by_cases e:a=b
 ·subst e;simp
 ·have h:¬(Sum.inl a:Key)=Sum.inl b:=fun q=>e (Sum.inl.inj q)
  rw[decide_eq_false h]
  exact(beq_eq_false_iff_ne.mpr e).symm
theorem key_rr (a b:Str):decide ((Sum.inr a:Key)=Sum.inr b)=decide (a=b):=by
 by_cases e:a=b
 ·subst e;simp
 ·have h:¬(Sum.inr a:Key)=Sum.inr b:=fun q=>e (Sum.inr.inj q)
  rw[decide_eq_false h,decide_eq_false e]
theorem key_lr (a:Int)(b:Str):decide ((Sum.inl a:Key)=Sum.inr b)=false:=decide_eq_false (fun q=>nomatch q)
theorem key_rl (a:Str)(b:Int):decide ((Sum.inr a:Key)=Sum.inl b)=false:=decide_eq_false (fun q=>nomatch q)
def Ya (prog:Program)(w:World):PySem.KeyKind prog w Key where
 is:=keyIs
 hash:=keyH w
 inj:=fun v a b ha hb=>by
  rcases Qy ha with⟨i,t,rfl,rfl⟩|⟨x,t,rfl,rfl⟩
  ·rcases Qy hb with⟨j,u,rfl,e⟩|⟨y,u,rfl,e⟩
   ·injection e with e1 _;rw[e1]
   ·exact nomatch e
  ·rcases Qy hb with⟨j,u,rfl,e⟩|⟨y,u,rfl,e⟩
   ·exact nomatch e
   ·injection e with e1 _;rw[e1]
 byValue:=fun k v h=>by
  rcases Qy h with⟨i,t,rfl,rfl⟩|⟨x,t,rfl,rfl⟩<;>rfl
 pyHash:=fun hv h=>by
  rcases Qy hv with⟨i,t,rfl,rfl⟩|⟨x,t,rfl,rfl⟩
  ·exact wpAny_pyHash_int h
  ·exact wpAny_pyHash_str h
 eqBool:=fun hu hv h=>by
  rcases Qy hu with⟨i,t,rfl,rfl⟩|⟨x,t,rfl,rfl⟩
  ·rcases Qy hv with⟨j,u,rfl,rfl⟩|⟨y,u,rfl,rfl⟩
   ·rw[key_ll] at h;exact wpAny_eqBool_int h
   ·rw[key_lr] at h;exact SeqAt.EqAt.int_str i t y u _ _ _ _ h
  ·rcases Qy hv with⟨j,u,rfl,rfl⟩|⟨y,u,rfl,rfl⟩
   ·rw[key_rl] at h;exact SeqAt.EqAt.str_int x t j u _ _ _ _ h
   ·rw[key_rr] at h;exact wpAny_eqBool_str h
 «strs»:=fun k x t v h=>by
  rcases Qy h with⟨i,u,rfl,e⟩|⟨y,u,rfl,e⟩
  ·exact nomatch e
  ·injection e with e1 _
   subst e1
   cases v<;>rfl
theorem mixKind_int (prog:Program)(w:World)(i:Int)(t:Tok):(Ya prog w).is (.inl i) (.int i t)=true:=keyIs_int i t
theorem mixKind_str (prog:Program)(w:World)(x:Str)(t:Tok):(Ya prog w).is (.inr x) (.str x t)=true:=keyIs_str x t
end L2
namespace L2
open PySem PySem.Spec PyProof.Rows
inductive V where
 |non|bl (b:Bool)|int (i:Int)|str (x:Str)|byt (b:Array UInt8)|flt (b:UInt64)|ref (a:Addr)|ty (n:String)
 deriving DecidableEq
def RelV:V->Value->Prop
 |.non,u=>u=Value.none
 |.bl b,u=>u=Value.bool b
 |.int i,u=>∃t,u=Value.int i t
 |.str x,u=>∃t,u=Value.str x t
 |.byt b,u=>∃t,u=Value.bytes b t
 |.flt b,u=>∃t,u=Value.float b t
 |.ref a,u=>u=Value.ref a
 |.ty n,u=>u=Value.type n
abbrev Vals:List V->List Value->Prop:=Paired RelV
theorem Vals.length {xs:List V}{us:List Value}(r:Vals xs us):xs.length=us.length:=Paired.length r
theorem Vals.get:∀{xs:List V} {us:List Value} {i:Nat} {x:V},Vals xs us->xs[i]?=some x->∃u,us[i]?=some u/\RelV x u
 |_,_,_,_,.nil,e=>by simp at e
 |_,_,0,_,.cons r _,e=>by simp at e;subst e;exact⟨_,rfl,r⟩
 |_,_,i+1,x,.cons _ t,e=>by
  obtain⟨u,h1,h2⟩:=Vals.get (i:=i) (x:=x) t (by simpa using e)
  exact⟨u,by simpa using h1,h2⟩
theorem Vals.set {x:V}{u:Value}(r:RelV x u):∀{xs:List V} {us:List Value} (i:Nat),Vals xs us->Vals (xs.set i x) (us.set i u)
 |_,_,_,.nil=>.nil
 |_,_,0,.cons _ t=>.cons r t
 |_,_,i+1,.cons q t=>.cons q (Vals.set r i t)
theorem Vals.append:∀{xs ys:List V} {us ws:List Value},Vals xs us->Vals ys ws->Vals (xs++ys) (us++ws)
 |_,_,_,_,.nil,s=>s
 |_,_,_,_,.cons r t,s=>.cons r (Vals.append t s)
theorem Vals.take:∀{xs:List V} {us:List Value} (n:Nat),Vals xs us->Vals (xs.take n) (us.take n)
 |_,_,0,_=>.nil
 |_,_,_+1,.nil=>.nil
 |_,_,n+1,.cons r t=>.cons r (Vals.take n t)
theorem Vals.drop:∀{xs:List V} {us:List Value} (n:Nat),Vals xs us->Vals (xs.drop n) (us.drop n)
 |_,_,0,r=>r
 |_,_,_+1,.nil=>.nil
 |_,_,n+1,.cons _ t=>Vals.drop n t
theorem Vals.none_of:∀{xs:List V} {us:List Value} {i:Nat},Vals xs us->xs[i]?=none->us[i]?=none:=fun {xs us i} r e=>by
 have h1:=r.length
 have h2:xs.length<=i:=List.getElem?_eq_none_iff.mp e
 exact List.getElem?_eq_none_iff.mpr (by omega)
def RelO:Option V->Option Value->Prop
 |some v,some u=>RelV v u
 |none,none=>True
 |_,_=>False
def KV {κ:Type}:List (κ×V)->List (κ×Value)->Prop:=Paired fun(p:κ×V) (q:κ×Value)=>p.1=q.1/\RelV p.2 q.2
def kV:Key->V
 |.inl i=>.int i
 |.inr x=>.str x
inductive HO where
 |lst (xs:List V)
 |tup (xs:List V)
 |dK (kvs:List (Key×V))|dT (kvs:List (List Key×V))
 |set (S:Int->Bool) (n:Nat)
 |ins (C dx:Addr) (fs:List (Str×V))
 |own (x:Addr)
 |xd (fs:List (Str×V))
 |met (f x:Addr)
 |rng (lo hi:Int)
 |frz (o:Obj) (u:HO)
 |tbl (ps:Array Value)
 |ext (φ:Heap->Prop)
abbrev Hp:=Addr->Option HO
def upd (H:Hp)(a:Addr)(o:HO):Hp:=fun b=>if b=a then some o else H b
theorem Zo {H:Hp}{a:Addr}{o:HO}:upd H a o a=some o:=by unfold upd;rw[if_pos rfl]
theorem Zn {H:Hp}{a b:Addr}{o:HO}(h:b≠a):upd H a o b=H b:=by unfold upd;rw[if_neg h]
theorem ne_of {H:Hp}{a b:Addr}{o u:HO}(h:H a=some o)(h':H b=some u)(d:o≠u):a≠b:=by
 intro e;subst e;rw[h] at h';exact d (Option.some.inj h')
theorem Zy {H:Hp}{a b:Addr}{o:HO}(h:H a=some o)(h':H b=none):a≠b:=by
 intro e;subst e;rw[h] at h';cases h'
section
variable (P:Program) (w:World)
def ObjOk (H:Hp)(h:Heap)(a:Addr):HO->Prop
 |.lst xs=>xs.length<=sizeLine/\∃(its:List Value) (n:Nat),Vals xs its/\h.get? a=some { cls:=.type "list", data:=.seq its.toArray n }
 |.tup xs=>xs.length<=sizeLine/\∃its:List Value,Vals xs its/\IsTup h a its.toArray
 |.dK kvs=>kvs.length<=sizeLine/\(a==sysModules)=false/\∃vs,KV kvs vs/\h.DictOf (Ya P w) a vs
 |.dT kvs=>kvs.length<=sizeLine/\(a==sysModules)=false/\∃xs:List (List Key×Addr×Value),
   Paired (fun(p:List Key×V) (q:List Key×Addr×Value)=>p.1=q.1/\H q.2.1=some (.tup (p.1.map kV))/\RelV p.2 q.2.2) kvs xs /\
   ∃o es ep,h.get? a=some o/\o.ExactDict/\o.data=.dict es ep/\es.toList=xs.map (entryOfKey (tupleKind (Ya P w)))/\(xs.map (·.1)).Nodup
 |.set S n=>h.SetOf (intKind P w) a S n
 |.ins C dx fs=>H dx=some (.own a)/\fs.length<=1000/\dx≠a/\h.get? a=some (PySem.W.instObj C dx) /\
   ∃mA,h.Ns1 dx mA/\(∀f,RelO (fs.lookup f) (mA f))/\PySem.Within mA (fs.map (·.1))
 |.own _=>∃o,h.get? a=some o
 |.xd fs=>∃mA,h.Ns1 a mA/\∀f,RelO (fs.lookup f) (mA f)
 |.rng lo hi=>∃t u v,h.get? a=some { cls:=.type "range", data:=.fields #[.int lo t,.int hi u,.int 1 v] }
 |.frz o u=>h.get? a=some o/\ObjOk H h a u
 |.tbl ps=>h.get? a=some { cls:=.none,data:=.fields ps }
 |.met f x=>h.get? a=some (PySem.W.methodObj (.ref f) (.ref x))
 |.ext φ=>φ h/\(∃o,h.get? a=some o)/\∀h1 h2:Heap,φ h1->(∀o,h1.get? a=some o->h2.get? a=some o)->φ h2
def HOk (H:Hp)(h:Heap):Prop:=∀a o,H a=some o->ObjOk P w H h a o
end
section
variable {P:Program} {w:World} {H H':Hp} {h h':Heap} {a:Addr} {o:HO}
theorem ObjOk.lt (x:ObjOk P w H h a o):a<h.objs.size:=by
 cases o with
 |lst xs=>obtain⟨_,_,_,_,e⟩:=x;exact Heap.lt_size e
 |tup xs=>obtain⟨_,_,_,p⟩:=x;exact p.lt
 |dK kvs=>obtain⟨_,_,_,_,o,_,_,e,_⟩:=x;exact Heap.lt_size e
 |dT kvs=>obtain⟨_,_,_,_,o,_,_,e,_⟩:=x;exact Heap.lt_size e
 |set S n=>obtain⟨o,_,_,_,e,_⟩:=x;exact Heap.lt_size e
 |ins C dx fs=>obtain⟨_,_,_,e,_⟩:=x;exact Heap.lt_size e
 |own y=>obtain⟨_,e⟩:=x;exact Heap.lt_size e
 |xd fs=>obtain⟨_,⟨_,_,_,e,_⟩,_⟩:=x;exact Heap.lt_size e
 |rng lo hi=>obtain⟨_,_,_,e⟩:=x;exact Heap.lt_size e
 |frz ob u=>obtain⟨e,_⟩:=x;exact Heap.lt_size e
 |tbl ps=>exact Heap.lt_size (show h.get? a=some _ from x)
 |met f y=>exact Heap.lt_size (show h.get? a=some _ from x)
 |ext φ=>obtain⟨_,⟨_,e⟩,_⟩:=x;exact Heap.lt_size e
theorem Paired.mapP {α β:Type}{F G:α->β->Prop}:∀{l₁:List α} {l₂:List β},Paired F l₁ l₂->(∀a b,F a b->G a b)->Paired G l₁ l₂
 |_,_,.nil,_=>.nil
 |_,_,.cons r t,f=>.cons (f _ _ r) (Paired.mapP t f)
theorem ObjOk.stay (x:ObjOk P w H h a o)(k:∀b u,(b=a\/H b=some (.own a))->h.get? b=some u->h'.get? b=some u)(ho:∀b,H b=some (.own a)->H' b=some (.own a))(ht:∀b xs,H b=some (.tup xs)->H' b=some (.tup xs)):ObjOk P w H' h' a o:=by
 induction o with
 |lst xs=>obtain⟨z,its,n,r,e⟩:=x;exact⟨z,its,n,r,k _ _ (.inl rfl) e⟩
 |tup xs=>obtain⟨z,its,r,ob,e,c⟩:=x;exact⟨z,its,r,ob,k _ _ (.inl rfl) e,c⟩
 |dK kvs=>obtain⟨z,y,vs,r,ob,es,ep,e,c⟩:=x;exact⟨z,y,vs,r,ob,es,ep,k _ _ (.inl rfl) e,c⟩
 |dT kvs =>
  obtain⟨z,y,xs,r,ob,es,ep,e,c⟩:=x
  exact⟨z,y,xs,Paired.mapP r fun p q z=>⟨z.1,ht _ _ z.2.1,z.2.2⟩,ob,es,ep,k _ _ (.inl rfl) e,c⟩
 |set S n=>obtain⟨ob,es,ep,t,e,c⟩:=x;exact⟨ob,es,ep,t,k _ _ (.inl rfl) e,c⟩
 |ins C dx fs =>
  obtain⟨d,z,ne,e,mA,⟨od,es,ep,e2,c⟩,r⟩:=x
  exact⟨ho _ d,z,ne,k _ _ (.inl rfl) e,mA,⟨od,es,ep,k _ _ (.inr d) e2,c⟩,r⟩
 |own y=>obtain⟨ob,e⟩:=x;exact⟨ob,k _ _ (.inl rfl) e⟩
 |xd fs=>obtain⟨mA,⟨od,es,ep,e,c⟩,r⟩:=x;exact⟨mA,⟨od,es,ep,k _ _ (.inl rfl) e,c⟩,r⟩
 |rng lo hi=>obtain⟨t,u,v,e⟩:=x;exact⟨t,u,v,k _ _ (.inl rfl) e⟩
 |frz ob u ih=>obtain⟨e,q⟩:=x;exact⟨k _ _ (.inl rfl) e,ih q⟩
 |tbl ps =>
  have e:h.get? a=some { cls:=.none,data:=.fields ps }:=x
  show h'.get? a=some { cls:=.none,data:=.fields ps }
  exact k a _ (.inl rfl) e
 |met f y =>
  have e:h.get? a=some (PySem.W.methodObj (.ref f) (.ref y)):=x
  show h'.get? a=some (PySem.W.methodObj (.ref f) (.ref y))
  exact k a _ (.inl rfl) e
 |ext φ=>obtain⟨p,⟨o,e⟩,st⟩:=x;exact⟨st _ _ p fun o q=>k _ _ (.inl rfl) q,⟨o,k _ _ (.inl rfl) e⟩,st⟩
theorem HOk.lt (x:HOk P w H h)(e:H a=some o):a<h.objs.size:=(x a o e).lt
theorem HOk.fresh (x:HOk P w H h)(e:h.objs.size<=a):H a=none:=by
 cases q:H a with
 |none=>rfl
 |some u=>exact absurd (Nat.lt_of_lt_of_le (x.lt q) e) (Nat.lt_irrefl _)
theorem HOk.kept (x:HOk P w H h)(k:∀b u,h.get? b=some u->h'.get? b=some u):HOk P w H h':=fun a o e =>
 (x a o e).stay (fun b u _ q=>k b u q) (fun _ q=>q) fun _ _ q=>q
theorem HOk.laid (x:HOk P w H h)(k:∀b u,h.get? b=some u->h'.get? b=some u)(hp:h.objs.size<=a)(new:ObjOk P w (upd H a o) h' a o):HOk P w (upd H a o) h':=fun b u e=>by
 have hn:=x.fresh hp
 by_cases hb:b=a
 ·subst hb;rw[Zo] at e;cases e;exact new
 ·rw[Zn hb] at e
  exact(x b u e).stay (fun c v _ q=>k c v q) (fun c q=>by rw[Zn (Zy q hn)];exact q) fun c xs q=>by rw[Zn (Zy q hn)];exact q
end
def Rd (H:Hp)(a:Addr)(u:HO):Prop:=H a=some u\/∃o,H a=some (.frz o u)
theorem Rd.of {H:Hp}{a:Addr}{u:HO}(h:H a=some u):Rd H a u:=.inl h
theorem Rd.ok {P:Program}{w:World}{H:Hp}{h:Heap}{a:Addr}{u:HO}(r:Rd H a u)(x:HOk P w H h):ObjOk P w H h a u:=by
 rcases r with r|⟨o,r⟩
 ·exact x a u r
 ·obtain⟨_,q⟩:=x a _ r
  exact q
def Mut:Option HO->Prop
 |some (.lst _)=>True
 |some (.dK _)=>True
 |some (.dT _)=>True
 |some (.set _ _)=>True
 |some (.ins _ _ _)=>True
 |some (.ext _)=>True
 |_=>False
section
variable {P:Program} {w:World} {H:Hp} {h h':Heap} {x e:Addr} {o':HO}
theorem HOk.write (ok:HOk P w H h)(mu:Mut (H x))(he:e=x\/H e=some (.own x))(k:∀b u,b≠e->h.get? b=some u->h'.get? b=some u)(heo:∃u,h'.get? e=some u)(new:ObjOk P w (upd H x o') h' x o'):HOk P w (upd H x o') h':=fun b u q=>by
 have nown:∀c y,H c=some (.own y)->c≠x:=fun c y r z=>by subst z;rw[r] at mu;exact mu
 have ntup:∀c xs,H c=some (.tup xs)->c≠x:=fun c xs r z=>by subst z;rw[r] at mu;exact mu
 by_cases hb:b=x
 ·subst hb;rw[Zo] at q;cases q;exact new
 ·rw[Zn hb] at q
  by_cases hbe:b=e
  ·have q':H b=some (.own x):=by
    rcases he with z|z
    ·exact absurd (hbe.trans z) hb
    ·rw[hbe];exact z
   rw[q] at q';cases q'
   obtain⟨v,hv⟩:=heo
   exact⟨v,by rw[hbe];exact hv⟩
  ·refine(ok b u q).stay (fun c v hc r=>k c v ?_ r) (fun c r=>by rw[Zn (nown c b r)];exact r) fun c xs r=>by rw[Zn (ntup c xs r)];exact r
   rcases hc with rfl|hc
   ·exact hbe
   ·rintro rfl
    rcases he with z|z
    ·exact nown c b hc z
    ·rw[hc] at z;cases z;exact hb rfl
end
structure Un (fs ex:List Addr) (H H':Hp) (h h':Heap):Prop where
 keep:∀b o,h.get? b=some o->H b=none->b ∉ fs->b ∉ ex->h'.get? b=some o
 slot:∀b o,h.get? b=some o->H b=none->b∈fs->b ∉ ex->∃sl,h'.get? b=some { o with slots:=sl }
 free:∀b o,h.get? b=some o->H b=none->b ∉ ex->H' b=none
 there:∀b o,h.get? b=some o->b ∉ ex->∃o',h'.get? b=some o'
 tups:∀b xs,H b=some (.tup xs)->H' b=some (.tup xs)
 frzs:∀b o u,H b=some (.frz o u)->H' b=some (.frz o u)
 tbls:∀b ps,H b=some (.tbl ps)->∃more,H' b=some (.tbl (ps++more))
section
variable {fs fs' ex ex':List Addr} {H H1 H2:Hp} {h h1 h2 h':Heap} {a x e:Addr} {o:HO}
theorem Un.any (u:Un fs ex H H1 h h1){b:Addr}{ob:Obj}(q:h.get? b=some ob)(n:H b=none)(hx:b ∉ ex):∃sl,h1.get? b=some { ob with slots:=sl }:=by
 by_cases hb:b∈fs
 ·exact u.slot b ob q n hb hx
 ·exact⟨ob.slots,u.keep b ob q n hb hx⟩
theorem Un.trans (a:Un fs ex H H1 h h1)(b:Un fs ex H1 H2 h1 h2):Un fs ex H H2 h h2 where
 keep:=fun c ob q n hc hx=>b.keep c ob (a.keep c ob q n hc hx) (a.free c ob q n hx) hc hx
 slot:=fun c ob q n hc hx=>by
  obtain⟨sl,e1⟩:=a.slot c ob q n hc hx
  obtain⟨sl',e2⟩:=b.slot c _ e1 (a.free c ob q n hx) hc hx
  exact⟨sl',e2⟩
 free:=fun c ob q n hx=>by
  obtain⟨o',e1⟩:=a.there c ob q hx
  exact b.free c o' e1 (a.free c ob q n hx) hx
 there:=fun c ob q hx=>by
  obtain⟨o',e1⟩:=a.there c ob q hx
  exact b.there c o' e1 hx
 tups:=fun c xs q=>b.tups c xs (a.tups c xs q)
 frzs:=fun c ob xs q=>b.frzs c ob xs (a.frzs c ob xs q)
 tbls:=fun c ps q=>by
  obtain⟨m1,e1⟩:=a.tbls c ps q
  obtain⟨m2,e2⟩:=b.tbls c _ e1
  exact⟨m1++m2,by rw[e2,Array.append_assoc]⟩
theorem Un.kept (k:∀b u,h.get? b=some u->h'.get? b=some u):Un fs ex H H h h' :=
 ⟨fun b ob q _ _ _=>k b ob q,fun b ob q _ _ _=>⟨ob.slots,k b ob q⟩,fun _ _ _ n _=>n,fun b ob q _=>⟨ob,k b ob q⟩,fun _ _ q=>q,fun _ _ _ q=>q,fun _ ps q=>⟨#[],by rw[q];simp⟩⟩
theorem Un.refl:Un fs ex H H h h:=Un.kept fun _ _ q=>q
theorem Un.laid (k:∀b u,h.get? b=some u->h'.get? b=some u)(hp:h.objs.size<=a)(hn:H a=none):Un fs ex H (upd H a o) h h' where
 keep:=fun b u q _ _ _=>k b u q
 slot:=fun b u q _ _ _=>⟨u.slots,k b u q⟩
 free:=fun b u q n _=>by rw[Zn (Nat.ne_of_lt (Nat.lt_of_lt_of_le (Heap.lt_size q) hp))];exact n
 there:=fun b u q _=>⟨u,k b u q⟩
 tups:=fun b xs q=>by rw[Zn (Zy q hn)];exact q
 frzs:=fun b u xs q=>by rw[Zn (Zy q hn)];exact q
 tbls:=fun b ps q=>⟨#[],by rw[Zn (Zy q hn),q];simp⟩
theorem Un.write (mu:Mut (H x))(he:e=x\/H e=some (.own x))(k:∀b u,b≠e->h.get? b=some u->h'.get? b=some u)(heo:∃u,h'.get? e=some u):Un fs ex H (upd H x o) h h':=by
 have hx:∀b,H b=none->b≠x:=fun b n z=>by subst z;rw[n] at mu;exact mu
 have hb:∀b,H b=none->b≠e:=fun b n z=>by
  subst z
  rcases he with r|r
  ·exact hx b n r
  ·rw[n] at r;cases r
 have hm:∀b u,H b=some u->¬Mut (some u)->b≠x:=fun b u q nm z=>by subst z;rw[q] at mu;exact nm mu
 refine⟨fun b u q n _ _=>k b u (hb b n) q,fun b u q n _ _=>⟨u.slots,k b u (hb b n) q⟩,fun b u q n _=>by rw[Zn (hx b n)];exact n,fun b u q _=>?_,
  fun b xs q=>by rw[Zn (hm b _ q fun z=>z)];exact q,fun b u xs q=>by rw[Zn (hm b _ q fun z=>z)];exact q,fun b ps q=>⟨#[],by rw[Zn (hm b _ q fun z=>z),q];simp⟩⟩
 by_cases hbe:b=e
 ·subst hbe;exact heo
 ·exact⟨u,k b u hbe q⟩
theorem Un.mono (u:Un fs ex H H1 h h1)(hs:∀b∈fs,b∈fs')(hx:∀b∈ex,b∈ex'):Un fs' ex' H H1 h h1 :=
 ⟨fun b ob q n hb he=>u.keep b ob q n (fun z=>hb (hs b z)) fun z=>he (hx b z),fun _ _ q n _ he=>u.any q n fun z=>he (hx _ z),fun b ob q n he=>u.free b ob q n fun z=>he (hx b z),fun b ob q he=>u.there b ob q fun z=>he (hx b z),u.tups,u.frzs,u.tbls⟩
end
def trk (h:Heap)(H:Hp):List Addr:=(List.range h.objs.size).filter fun a=>(H a).isSome
def hidT (h:Heap)(H:Hp):Heap:=PySem.W.hideAll h (trk h H)
theorem hidT_size (h:Heap)(H:Hp):(hidT h H).objs.size=h.objs.size:=PySem.W.hideAll_size _ _
theorem hidT_get {h:Heap}{H:Hp}{b:Addr}{o:Obj}(e:h.get? b=some o)(n:H b=none):(hidT h H).get? b=some o :=
 PySem.W.hideAll_get _ e fun hm=>by
  have q:(H b).isSome=true:=(List.mem_filter.mp hm).2
  rw[n] at q;simp at q
theorem of_hidT {h:Heap}{H:Hp}{b:Addr}{o:Obj}(e:(hidT h H).get? b=some o):h.get? b=some o/\H b=none:=by
 have e':h.get? b=some o:=PySem.W.of_hideAll (trk h H) e
 refine⟨e',?_⟩
 cases q:H b with
 |none=>rfl
 |some x =>
  have hm:b∈trk h H:=List.mem_filter.mpr ⟨List.mem_range.mpr (Heap.lt_size e'),by simp[q]⟩
  have z:(hidT h H).get? b=none:=PySem.W.hideAll_none (trk h H) hm
  rw[z] at e;cases e
def allNews (g h:Heap)(L:Addr):List (Addr×Obj):=(List.range h.objs.size).filterMap fun a=>if a=L\/(g.get? a).isSome=true then none else(h.get? a).map fun o=>(a,o)
def rest (g h:Heap)(L d:Addr):List (Addr×Obj):=(allNews g h L).filter fun p=>decide (p.1≠d)
end L2
namespace L2
open PySem PySem.Spec PyProof.Rows
structure Mod (K:PySem.W.Frag) (mg:Str->Option Value) (base:Heap):Prop where
 kin:K.In base
 glob:base.Ns mainGlobals mg
 blt:∃mb,base.Ns builtinsNs mb/\∀x:Str,x ≠ "__name__"->mb x=bootBuiltins x
 nolimit:base.NoLimit
structure Cx where
 prog:Program
 w:World
 K:PySem.W.Frag
 mg:Str->Option Value
 base:Heap
 A:Around
 N:List Str
 s₀:Shared
 H₀:Hp
 env:Env
 outer:List Env
 stack:List Env
 ex:List Addr
 fn:Str->Bool
 calm:Bool
 pn:List (Addr×Obj)
 xe:Value->Shared->Prop
def frs (l:List Env):List Addr:=l.filterMap (·.frame)
abbrev Cx.fs (X:Cx):List Addr:=frs X.outer
def Vis (sc:Scope)(x:Str):Prop:=sc.names.lookup x=some .local\/sc.names.lookup x=some .cell\/sc.names.lookup x=some .free
def Loc (sc:Scope)(x:Str):Prop:=sc.names.lookup x=some .local\/sc.names.lookup x=some .cell
def Look (env:Env)(h:Heap)(m:Str->Option Value)(x:Str)(u:Value):Prop :=
 (env.kindOf x=some .local/\m x=some u)\/((env.kindOf x=some .cell\/env.kindOf x=some .free)/\∃c,env.cells.lookup x=some c/\h.IsCell c (some u))
structure Cx.Ok (X:Cx):Prop where
 mod:Mod X.K X.mg X.base
 kind:X.env.scope.kind=.function
 glob:X.env.globals=mainGlobals
 blt:X.env.builtins=builtinsNs
 above:X.s₀.heap.objs.size<=X.env.locals
 inj:∀x y c,X.env.cells.lookup x=some c->X.env.cells.lookup y=some c->x=y
 has:∀x,(X.env.kindOf x=some .cell\/X.env.kindOf x=some .free)->∃c,X.env.cells.lookup x=some c
 cab:∀x c,X.fn x=true->X.env.cells.lookup x=some c->X.s₀.heap.objs.size<=c
 hd:X.calm=true->X.A.handled=none
 frames:X.A.frames=some X.stack
 stk:X.stack=X.outer\/(X.stack=X.env::X.outer/\X.env.frame=some X.env.locals)
 exf:∀b∈X.ex,b≠X.env.locals/\∀x c,X.env.cells.lookup x=some c->c≠b
 bs:∀b o,X.base.get? b=some o->X.s₀.heap.get? b=some o/\X.H₀ b=none
 bsz:X.base.objs.size<=X.s₀.heap.objs.size
 noex:∀b o,X.base.get? b=some o->b ∉ X.ex
 exfs:∀b∈X.ex,b ∉ X.fs
 funs:X.s₀.heap.FunFrames X.base X.outer
 frf:∀b∈X.fs,X.H₀ b=none
structure Inv (X:Cx) (pins:List (Addr×Obj)) (σ:List (Option V)) (H:Hp) (s:Shared):Prop where
 ok:X.Ok
 os:s.os=X.s₀.os
 bare:AllBare s.gens
 base:Un X.fs X.ex X.H₀ H X.s₀.heap s.heap
 loc:∃m,s.heap.Ns X.env.locals m/\∀(i:Nat) (x:Str) (v:V),X.N[i]?=some x->σ[i]?=some (some v)->Vis X.env.scope x->∃u,RelV v u/\Look X.env s.heap m x u
 cell:∀x c,X.env.cells.lookup x=some c->∃v,s.heap.IsCell c v
 free:H X.env.locals=none
 freeC:∀x c,X.env.cells.lookup x=some c->H c=none
 pin:∀p∈X.pn++pins,s.heap.get? p.1=some p.2/\H p.1=none/\p.1≠X.env.locals/\p.1 ∉ X.fs/\∀v,p.2.data≠.cell v
 hok:HOk X.prog X.w H s.heap
 len:σ.length=X.N.length
section
variable {X:Cx} {pins:List (Addr×Obj)} {σ:List (Option V)} {H H':Hp} {s:Shared} {h':Heap}
theorem Cx.Ok.nofr (ok:X.Ok){b:Addr}{o:Obj}(e:X.base.get? b=some o):b ∉ X.fs:=fun hb=>by
 have:=(ok.funs.mem hb).1
 rw[e] at this;cases this
theorem Inv.bs (I:Inv X pins σ H s):∀b o,X.base.get? b=some o->s.heap.get? b=some o/\H b=none:=fun b o e =>
 ⟨I.base.keep b o (I.ok.bs b o e).1 (I.ok.bs b o e).2 (I.ok.nofr e) (I.ok.noex b o e),I.base.free b o (I.ok.bs b o e).1 (I.ok.bs b o e).2 (I.ok.noex b o e)⟩
theorem Inv.bk (I:Inv X pins σ H s):∀b o,X.base.get? b=some o->s.heap.get? b=some o:=fun b o e=>(I.bs b o e).1
theorem Inv.mod (I:Inv X pins σ H s):Mod X.K X.mg X.base:=I.ok.mod
theorem Inv.kIn (I:Inv X pins σ H s):X.K.In s.heap:=I.ok.mod.kin.keeps I.bk
theorem Inv.nolimit (I:Inv X pins σ H s):s.heap.NoLimit:=I.ok.mod.nolimit.keeps I.bk
theorem Inv.fr (I:Inv X pins σ H s):∃m,Fr X.base X.env.locals s.heap m :=
 let ⟨m,hn,_⟩:=I.loc
 ⟨m,hn,I.bk,Nat.le_trans I.ok.bsz I.ok.above⟩
theorem Inv.lt (I:Inv X pins σ H s):X.env.locals<s.heap.objs.size:=let ⟨_,hn,_⟩:=I.loc;hn.lt
theorem Inv.sz (I:Inv X pins σ H s):X.s₀.heap.objs.size<=s.heap.objs.size:=Nat.le_trans I.ok.above (Nat.le_of_lt I.lt)
theorem Inv.nofs (I:Inv X pins σ H s){a:Addr}(h:s.heap.objs.size<=a):a ∉ X.fs:=fun hb=>by
 obtain⟨_,o,ho,_⟩:=I.ok.funs.mem hb
 exact absurd (Nat.lt_of_lt_of_le (Heap.lt_size ho) (Nat.le_trans I.sz h)) (Nat.lt_irrefl _)
theorem Inv.cne (I:Inv X pins σ H s):∀x c,X.env.cells.lookup x=some c->c≠X.env.locals:=fun x c e z=>by
 obtain⟨v,o,ho,hd⟩:=I.cell x c e
 obtain⟨m,⟨o',es,ep,ho',hd',_⟩,_⟩:=I.loc
 rw[z,ho'] at ho;cases ho;rw[hd'] at hd;cases hd
theorem Inv.funs (I:Inv X pins σ H s):s.heap.FunFrames X.base X.outer:=by
 have all:∀(l:List Env),(∀b∈frs l,b∈X.fs)->X.s₀.heap.FunFrames X.base l->s.heap.FunFrames X.base l:=by
  intro l
  induction l with
  |nil=>intro _ _;trivial
  |cons env r ih =>
   intro hs hl
   obtain⟨hk,⟨L,o,hf,hn,ho,hd⟩,hr⟩:=hl
   have hL:L∈X.fs:=hs L (by unfold frs;rw[List.filterMap_cons,hf];exact List.mem_cons_self)
   obtain⟨sl,e⟩:=I.base.slot L o ho (I.ok.frf L hL) hL fun z=>I.ok.exfs L z hL
   exact⟨hk,⟨L,_,hf,hn,e,hd⟩,ih (fun b hb=>hs b (by unfold frs;rw[List.filterMap_cons,hf];exact List.mem_cons_of_mem _ hb)) hr⟩
 exact all X.outer (fun _ hb=>hb) I.ok.funs
theorem Inv.stack (I:Inv X pins σ H s):s.heap.FunFrames X.base X.stack:=by
 rcases I.ok.stk with e|⟨e,hf⟩
 ·rw[e];exact I.funs
 ·rw[e]
  obtain⟨m,hn,_⟩:=I.loc
  refine .cons (by rw[I.ok.kind];decide) hf hn ?_ I.funs
  exact Heap.get?_none_of_le (Nat.le_trans I.ok.bsz I.ok.above)
theorem Inv.stkSub (I:Inv X pins σ H s):∀b∈frs X.stack,b∈X.env.locals::X.fs:=fun b hb=>by
 rcases I.ok.stk with e|⟨e,hf⟩
 ·rw[e] at hb;exact List.mem_cons_of_mem _ hb
 ·rw[e] at hb
  unfold frs at hb
  rw[List.filterMap_cons,hf] at hb
  exact hb
theorem Inv.stkFree (I:Inv X pins σ H s):∀b∈frs X.stack,H b=none:=fun b hb=>by
 rcases List.mem_cons.mp (I.stkSub b hb) with e|hb
 ·rw[e];exact I.free
 ·obtain⟨_,o,ho,_⟩:=I.ok.funs.mem hb
  exact I.base.free b o ho (I.ok.frf b hb) fun z=>I.ok.exfs b z hb
theorem Inv.step {g':Array GenState}{t':Nat}{d':Drawn}{ch:List Addr}(I:Inv X pins σ H s)(hch:∀b∈ch,(b∈X.ex\/X.s₀.heap.objs.size<=b)/\b≠X.env.locals/\(∀x c,X.env.cells.lookup x=some c->c≠b)/\∀p∈X.pn++pins,p.1≠b)(keep:∀b o,b≠X.env.locals->b ∉ X.fs->b ∉ ch->s.heap.get? b=some o->H b=none->h'.get? b=some o)(slot:∀b o,b≠X.env.locals->b∈X.fs->b ∉ ch->s.heap.get? b=some o->H b=none->∃sl,h'.get? b=some { o with slots:=sl })(free:∀b o,b ∉ ch->s.heap.get? b=some o->H b=none->H' b=none)(there:∀b o,b ∉ ch->s.heap.get? b=some o->∃o',h'.get? b=some o')(tups:∀b xs,H b=some (.tup xs)->H' b=some (.tup xs))(frzs:∀b o u,H b=some (.frz o u)->H' b=some (.frz o u))(tbls:∀b ps,H b=some (.tbl ps)->∃more,H' b=some (.tbl (ps++more)))(ns:∀m,s.heap.Ns X.env.locals m->h'.Ns X.env.locals m)(hok:HOk X.prog X.w H' h')(hg:AllBare g') :
  Inv X pins σ H' { s with heap:=h',gens:=g',drawn:=d',toks:=t' }:=by
 have neL:∀b o,X.s₀.heap.get? b=some o->b≠X.env.locals:=fun b o e=>Nat.ne_of_lt (Nat.lt_of_lt_of_le (Heap.lt_size e) I.ok.above)
 have neC:∀b o,X.s₀.heap.get? b=some o->b ∉ X.ex->b ∉ ch:=fun b o e hx hb=>by
  rcases(hch b hb).1 with z|z
  ·exact hx z
  ·exact absurd (Nat.lt_of_lt_of_le (Heap.lt_size e) z) (Nat.lt_irrefl _)
 have cellK:∀x c,X.env.cells.lookup x=some c->∀v,s.heap.IsCell c v->h'.IsCell c v:=fun x c e v ⟨o,ho,hd⟩=>by
  have nch:c ∉ ch:=fun z=>(hch c z).2.2.1 x c e rfl
  by_cases hc:c∈X.fs
  ·obtain⟨sl,q⟩:=slot c o (I.cne x c e) hc nch ho (I.freeC x c e)
   exact⟨_,q,hd⟩
  ·exact⟨o,keep c o (I.cne x c e) hc nch ho (I.freeC x c e),hd⟩
 refine⟨I.ok,I.os,hg,⟨fun b o e n hb hx=>?_,fun b o e n hb hx=>?_,fun b o e n hx=>?_,fun b o e hx=>?_,fun b xs e=>tups b xs (I.base.tups b xs e),fun b o xs e=>frzs b o xs (I.base.frzs b o xs e),fun b ps e=>?_⟩,?_,fun x c e=>?_,?_,fun x c e=>?_,fun p hp=>?_,hok,I.len⟩
 ·exact keep b o (neL b o e) hb (neC b o e hx) (I.base.keep b o e n hb hx) (I.base.free b o e n hx)
 ·obtain⟨sl,e1⟩:=I.base.slot b o e n hb hx
  obtain⟨sl',e2⟩:=slot b _ (neL b o e) hb (neC b o e hx) e1 (I.base.free b o e n hx)
  exact⟨sl',e2⟩
 ·obtain⟨o',e1⟩:=I.base.there b o e hx
  exact free b o' (neC b o e hx) e1 (I.base.free b o e n hx)
 ·obtain⟨o',e1⟩:=I.base.there b o e hx
  exact there b o' (neC b o e hx) e1
 ·obtain⟨m1,e1⟩:=I.base.tbls b ps e
  obtain⟨m2,e2⟩:=tbls b _ e1
  exact⟨m1++m2,by rw[e2,Array.append_assoc]⟩
 ·obtain⟨m,hn,hl⟩:=I.loc
  refine⟨m,ns m hn,fun i x v e1 e2 e3=>?_⟩
  obtain⟨u,r,l⟩:=hl i x v e1 e2 e3
  refine⟨u,r,?_⟩
  rcases l with l|⟨k,c,e,z⟩
  ·exact .inl l
  ·exact .inr ⟨k,c,e,cellK x c e _ z⟩
 ·obtain⟨v,z⟩:=I.cell x c e
  exact⟨v,cellK x c e v z⟩
 ·obtain⟨m,⟨o,_,_,ho,_⟩,_⟩:=I.loc
  exact free _ o (fun z=>(hch _ z).2.1 rfl) ho I.free
 ·obtain⟨v,o,ho,hd⟩:=I.cell x c e
  exact free c o (fun z=>(hch c z).2.2.1 x c e rfl) ho (I.freeC x c e)
 ·obtain⟨e,n,ne,nf,d⟩:=I.pin p hp
  have nch:p.1 ∉ ch:=fun z=>(hch p.1 z).2.2.2 p hp rfl
  exact⟨keep p.1 p.2 ne nf nch e n,free p.1 p.2 nch e n,ne,nf,d⟩
theorem Inv.un {t':Nat}(I:Inv X pins σ H s)(u:Un X.fs [] H H' s.heap h')(hok:HOk X.prog X.w H' h'):Inv X pins σ H' { s with heap:=h',toks:=t' }:=by
 obtain⟨m,⟨o,es,ep,ho,r⟩,_⟩:=id I.loc
 obtain⟨sl,hL⟩:=u.any ho I.free (by simp)
 exact I.step (g':=s.gens) (d':=s.drawn) (ch:=[]) (fun _ z=>nomatch z) (fun b o _ hb _ e n=>u.keep b o e n hb (by simp)) (fun b o _ hb _ e n=>u.slot b o e n hb (by simp)) (fun b o _ e n=>u.free b o e n (by simp)) (fun b o _ e=>u.there b o e (by simp)) u.tups u.frzs u.tbls (fun m' hm=>by
  obtain⟨o',es',ep',ho',r'⟩:=hm
  rw[ho] at ho';cases ho'
  exact⟨_,es',ep',hL,r'⟩) hok I.bare
theorem Inv.call {g':Array GenState}{t':Nat}{d':Drawn}{ch:List Addr}(I:Inv X pins σ H s)(u:Un (frs X.stack) ch H H' s.heap h')(hok:HOk X.prog X.w H' h')(hg:AllBare g')(hch:∀b∈ch,(b∈X.ex\/X.s₀.heap.objs.size<=b)/\b≠X.env.locals/\(∀x c,X.env.cells.lookup x=some c->c≠b)/\∀p∈X.pn++pins,p.1≠b) :
  Inv X pins σ H' { s with heap:=h',gens:=g',drawn:=d',toks:=t' }:=by
 obtain⟨m,⟨o,es,ep,ho,r⟩,_⟩:=id I.loc
 obtain⟨sl,hL⟩:=u.any ho I.free fun z=>(hch _ z).2.1 rfl
 exact I.step (ch:=ch) hch (fun b o hL hb hc e n=>u.keep b o e n (fun z=>(List.mem_cons.mp (I.stkSub b z)).elim hL hb) hc) (fun b o _ _ hc e n=>u.any e n hc) (fun b o hc e n=>u.free b o e n hc) (fun b o hc e=>u.there b o e hc) u.tups u.frzs u.tbls (fun m' hm=>by
  obtain⟨o',es',ep',ho',r'⟩:=hm
  rw[ho] at ho';cases ho'
  exact⟨_,es',ep',hL,r'⟩) hok hg
theorem Inv.turned {t':Nat}{it:Addr}(I:Inv X pins σ H s)(k:∀b o,b≠it->s.heap.get? b=some o->h'.get? b=some o)(hn:H it=none)(hL:it≠X.env.locals)(h1:it∈X.ex\/X.s₀.heap.objs.size<=it)(h2:∀x c,X.env.cells.lookup x=some c->c≠it)(h3:∀p∈X.pn++pins,p.1≠it):Inv X pins σ H { s with heap:=h',toks:=t' }:=by
 have nit:∀b u,H b=some u->b≠it:=fun b u e z=>by rw[z,hn] at e;cases e
 refine I.step (g':=s.gens) (d':=s.drawn) (ch:=[it]) (fun b hb=>?_) (fun b o _ _ hc e _=>k b o (fun z=>hc (by simp[z])) e) (fun b o _ _ hc e _=>⟨o.slots,k b o (fun z=>hc (by simp[z])) e⟩) (fun _ _ _ _ n=>n)
  (fun b o hc e=>⟨o,k b o (fun z=>hc (by simp[z])) e⟩) (fun _ _ e=>e) (fun _ _ _ e=>e) (fun b ps e=>⟨#[],by rw[e];simp⟩) (fun m hm=>?_) (fun b u e=>?_) I.bare
 ·have e:b=it:=by simpa using hb
  subst e
  exact⟨h1,hL,h2,h3⟩
 ·obtain⟨o,es,ep,ho,r⟩:=hm
  exact⟨o,es,ep,k _ o (Ne.symm hL) ho,r⟩
 ·refine(I.hok b u e).stay (fun c v hc q=>k c v ?_ q) (fun _ q=>q) fun _ _ q=>q
  rcases hc with z|z
  ·rw[z];exact nit b u e
  ·exact nit c _ z
theorem Inv.tok (I:Inv X pins σ H s)(t:Nat):Inv X pins σ H { s with toks:=t }:=I.un (h':=s.heap) (t':=t) Un.refl I.hok
theorem Inv.kept {t':Nat}(I:Inv X pins σ H s)(k:∀b u,s.heap.get? b=some u->h'.get? b=some u):Inv X pins σ H { s with heap:=h',toks:=t' }:=I.un (Un.kept k) (I.hok.kept k)
theorem Inv.laid {a:Addr}{o:HO}{t':Nat}(I:Inv X pins σ H s)(k:∀b u,s.heap.get? b=some u->h'.get? b=some u)(hp:s.heap.objs.size<=a)(new:ObjOk X.prog X.w (upd H a o) h' a o) :
  Inv X pins σ (upd H a o) { s with heap:=h',toks:=t' }:=I.un (Un.laid k hp (I.hok.fresh hp)) (I.hok.laid k hp new)
theorem Inv.write {x e:Addr}{o:HO}{t':Nat}(I:Inv X pins σ H s)(mu:Mut (H x))(he:e=x\/H e=some (.own x))(k:∀b u,b≠e->s.heap.get? b=some u->h'.get? b=some u)(heo:∃u,h'.get? e=some u)(new:ObjOk X.prog X.w (upd H x o) h' x o):Inv X pins σ (upd H x o) { s with heap:=h',toks:=t' }:=I.un (Un.write mu he k heo) (I.hok.write mu he k heo new)
theorem Inv.weak {σ':List (Option V)}(I:Inv X pins σ H s)(hl:σ'.length=σ.length)(w:∀(i:Nat) v,σ'[i]?=some (some v)->σ[i]?=some (some v)):Inv X pins σ' H s :=
 ⟨I.ok,I.os,I.bare,I.base,let ⟨m,hn,hl'⟩:=I.loc;⟨m,hn,fun i x v e1 e2 e3=>hl' i x v e1 (w i v e2) e3⟩,I.cell,I.free,I.freeC,I.pin,I.hok,hl.trans I.len⟩
theorem Inv.pins_of {pins':List (Addr×Obj)}(I:Inv X pins σ H s)(h:∀p∈pins',s.heap.get? p.1=some p.2/\H p.1=none/\p.1≠X.env.locals/\p.1 ∉ X.fs/\∀v,p.2.data≠.cell v):Inv X pins' σ H s :=
 ⟨I.ok,I.os,I.bare,I.base,I.loc,I.cell,I.free,I.freeC,fun p hp=>(List.mem_append.mp hp).elim (fun z=>I.pin p (List.mem_append_left _ z)) (h p),I.hok,I.len⟩
theorem nodup_ix {N:List Str}(hN:N.Nodup){i j:Nat}{x:Str}(a:N[i]?=some x)(b:N[j]?=some x):i=j:=by
 obtain⟨h1,e1⟩:=List.getElem?_eq_some_iff.mp a
 obtain⟨h2,e2⟩:=List.getElem?_eq_some_iff.mp b
 exact(List.getElem_inj hN).mp (e1.trans e2.symm)
theorem store_ok2 {M:Model}{A:Around}{E:Value->Shared->Prop}{i:Nat}{x:Str}{v:V}{u:Value}{Q:Unit->Shared->Prop}(I:Inv X pins σ H s)(hN:X.N.Nodup)(hi:X.N[i]?=some x)(hx:Loc X.env.scope x)(r:RelV v u)(h:∀s',Inv X pins (σ.set i (some v)) H s'->(∃a,Heap.SameBut a s.heap s'.heap/\(a=X.env.locals\/X.env.cells.lookup x=some a))->Q () s')(hf:X.fn x=true\/X.env.scope.names.lookup x=some .local:=by first|exact .inl rfl|exact .inr rfl|assumption):wpAny M A (storeName X.env x u) Q E s:=by
 obtain⟨m,hn,hl⟩:=id I.loc
 have hcls:(X.env.scope.kind==.class||(X.env.scope.kind==.module&&X.env.locals != X.env.globals))=false:=by rw[I.ok.kind];rfl
 have hiσ:i<σ.length:=by rw[I.len];exact(List.getElem?_eq_some_iff.mp hi).1
 have cne:=I.cne
 have tracked:∀{a:Addr} {h':Heap},(∃o,s.heap.get? a=some o/\H a=none)->Heap.SameBut a s.heap h'->HOk X.prog X.w H h':=fun {a h'} ha hs b ob e=>by
  obtain⟨_,_,hfree⟩:=ha
  refine(I.hok b ob e).stay (fun c w' hc q=>(hs.2 c ?_).trans q) (fun _ q=>q) fun _ _ q=>q
  rintro rfl
  rcases hc with rfl|hc
  ·rw[hfree] at e;cases e
  ·rw[hfree] at hc;cases hc
 rcases hx with hk|hk
 ·refine wpAny_storeName_local hk hn (fun h' hn' hs=>?_) hcls
  obtain⟨oL,_,_,hoL,_⟩:=id hn
  refine h _ ⟨I.ok,I.os,I.bare,⟨fun b o e n hb hx=>?_,fun b o e n hb hx=>?_,I.base.free,fun b o e hx=>?_,I.base.tups,I.base.frzs,I.base.tbls⟩,⟨_,hn',fun j y v' e1 e2 e3=>?_⟩,fun y c e=>?_,I.free,I.freeC,fun p hp=>?_,tracked ⟨oL,hoL,I.free⟩ hs,by simpa using I.len⟩ ⟨_,hs,.inl rfl⟩
  ·exact(hs.2 b (Nat.ne_of_lt (Nat.lt_of_lt_of_le (Heap.lt_size e) I.ok.above))).trans (I.base.keep b o e n hb hx)
  ·obtain⟨sl,e1⟩:=I.base.slot b o e n hb hx
   exact⟨sl,(hs.2 b (Nat.ne_of_lt (Nat.lt_of_lt_of_le (Heap.lt_size e) I.ok.above))).trans e1⟩
  ·obtain⟨o',e1⟩:=I.base.there b o e hx
   exact⟨o',(hs.2 b (Nat.ne_of_lt (Nat.lt_of_lt_of_le (Heap.lt_size e) I.ok.above))).trans e1⟩
  ·by_cases hj:j=i
   ·subst hj
    rw[hi] at e1;cases e1
    rw[List.getElem?_set_self hiσ] at e2
    cases e2
    exact⟨u,r,.inl ⟨hk,by simp⟩⟩
   ·rw[List.getElem?_set_ne (Ne.symm hj)] at e2
    obtain⟨u',r',q⟩:=hl j y v' e1 e2 e3
    refine⟨u',r',?_⟩
    rcases q with⟨k,e⟩|⟨k,c,e,z⟩
    ·refine .inl ⟨k,?_⟩
     have:y≠x:=fun e=>hj (nodup_ix hN e1 (e▸hi))
     simp[this,e]
    ·exact .inr ⟨k,c,e,z.sameBut hs (cne y c e)⟩
  ·obtain⟨w',z⟩:=I.cell y c e
   exact⟨w',z.sameBut hs (cne y c e)⟩
  ·obtain⟨e,n,ne,nf,d⟩:=I.pin p hp
   exact⟨(hs.2 p.1 ne).trans e,n,ne,nf,d⟩
 ·have hfn:X.fn x=true:=by
   rcases hf with z|z
   ·exact z
   ·rw[z] at hk;cases hk
  obtain⟨c,hc⟩:=I.ok.has x (.inl hk)
  obtain⟨w',z⟩:=I.cell x c hc
  refine wpAny_storeName_cell I.ok.kind hk hc z (fun h' hc' hs=>?_)
  obtain⟨oc,hoc,hocd⟩:=id z
  refine h { s with heap:=h' } ⟨I.ok,I.os,I.bare,⟨fun b o e n hb hx=>?_,fun b o e n hb hx=>?_,I.base.free,fun b o e hx=>?_,I.base.tups,I.base.frzs,I.base.tbls⟩,⟨m,hn.sameBut hs (Ne.symm (cne x c hc)),fun j y v' e1 e2 e3=>?_⟩,fun y c' e=>?_,I.free,I.freeC,fun p hp=>?_,tracked ⟨oc,hoc,I.freeC x c hc⟩ hs,by simpa using I.len⟩ ⟨c,hs,.inr hc⟩
  ·exact(hs.2 b (Nat.ne_of_lt (Nat.lt_of_lt_of_le (Heap.lt_size e) (I.ok.cab x c hfn hc)))).trans (I.base.keep b o e n hb hx)
  ·obtain⟨sl,e1⟩:=I.base.slot b o e n hb hx
   exact⟨sl,(hs.2 b (Nat.ne_of_lt (Nat.lt_of_lt_of_le (Heap.lt_size e) (I.ok.cab x c hfn hc)))).trans e1⟩
  ·obtain⟨o',e1⟩:=I.base.there b o e hx
   exact⟨o',(hs.2 b (Nat.ne_of_lt (Nat.lt_of_lt_of_le (Heap.lt_size e) (I.ok.cab x c hfn hc)))).trans e1⟩
  ·by_cases hj:j=i
   ·subst hj
    rw[hi] at e1;cases e1
    rw[List.getElem?_set_self hiσ] at e2
    cases e2
    exact⟨u,r,.inr ⟨.inl hk,c,hc,hc'⟩⟩
   ·rw[List.getElem?_set_ne (Ne.symm hj)] at e2
    obtain⟨u',r',q⟩:=hl j y v' e1 e2 e3
    refine⟨u',r',?_⟩
    rcases q with q|⟨k,c',e,z'⟩
    ·exact .inl q
    ·refine .inr ⟨k,c',e,z'.sameBut hs ?_⟩
     rintro rfl
     exact hj (nodup_ix hN e1 (I.ok.inj _ _ _ e hc▸hi))
  ·by_cases hcc:c'=c
   ·subst hcc;exact⟨_,hc'⟩
   ·obtain⟨w2,z2⟩:=I.cell y c' e
    exact⟨w2,z2.sameBut hs hcc⟩
  ·obtain⟨e,n,ne,nf,d⟩:=I.pin p hp
   refine⟨(hs.2 p.1 ?_).trans e,n,ne,nf,d⟩
   intro q
   rw[q,hoc] at e
   have q':oc=p.2:=Option.some.inj e
   exact d w' (by rw[<-q'];exact hocd)
theorem store_ok {M:Model}{A:Around}{E:Value->Shared->Prop}{i:Nat}{x:Str}{v:V}{u:Value}{Q:Unit->Shared->Prop}(I:Inv X pins σ H s)(hN:X.N.Nodup)(hi:X.N[i]?=some x)(hx:Loc X.env.scope x)(r:RelV v u)(h:∀s',Inv X pins (σ.set i (some v)) H s'->Q () s')(hf:X.fn x=true\/X.env.scope.names.lookup x=some .local:=by first|exact .inl rfl|exact .inr rfl|assumption):wpAny M A (storeName X.env x u) Q E s :=
 store_ok2 I hN hi hx r (fun s' I' _=>h s' I') hf
theorem Inv.call' {s':Shared}{ch:List Addr}(I:Inv X pins σ H s)(ho:s'.os=s.os)(u:Un (frs X.stack) ch H H' s.heap s'.heap)(hok:HOk X.prog X.w H' s'.heap)(hg:AllBare s'.gens)(hch:∀b∈ch,(b∈X.ex\/X.s₀.heap.objs.size<=b)/\b≠X.env.locals/\(∀x c,X.env.cells.lookup x=some c->c≠b)/\∀p∈X.pn++pins,p.1≠b):Inv X pins σ H' s':=by
 obtain⟨h',g',d',t',o'⟩:=s'
 have e:o'=s.os:=ho
 subst e
 exact I.call (g':=g') (t':=t') (d':=d') u hok hg hch
end
abbrev XK:=Value->Option Addr->Hp->Prop
abbrev St:=List (Option V)
abbrev VK:=V->Hp->Prop
abbrev TE:=St->Hp->VK->Prop
abbrev TT:=St->Hp->(Bool->Hp->Prop)->Prop
abbrev TA:=St->Hp->(List V->Hp->Prop)->Prop
structure Ends where
 nx:St->Hp->Prop
 rt:VK
 bk:St->Hp->Prop:=fun _ _=>False
 ct:St->Hp->Prop:=fun _ _=>False
abbrev TS:=Ends->St->Hp->Prop
def EP (X:Cx)(pins:List (Addr×Obj))(σ:St)(Q:VK)(u:Value)(s':Shared):Prop:=∃v H',Inv X pins σ H' s'/\RelV v u/\Q v H'
def TP (X:Cx)(pins:List (Addr×Obj))(σ:St)(Q:Bool->Hp->Prop)(b:Bool)(s':Shared):Prop:=∃H',Inv X pins σ H' s'/\Q b H'
def AP (X:Cx)(pins:List (Addr×Obj))(σ:St)(Q:List V->Hp->Prop)(us:List Value)(s':Shared):Prop:=∃vs H',Inv X pins σ H' s'/\Vals vs us/\Q vs H'
def SP (X:Cx)(pins:List (Addr×Obj))(D:Ends)(f:Flow)(s':Shared):Prop :=
 match f with
 |.next=>∃σ' H',Inv X pins σ' H' s'/\D.nx σ' H'
 |.brk=>∃σ' H',Inv X pins σ' H' s'/\D.bk σ' H'
 |.cont=>∃σ' H',Inv X pins σ' H' s'/\D.ct σ' H'
 |.ret u=>∃v σ' H',Inv X pins σ' H' s'/\RelV v u/\D.rt v H'
def PE (X:Cx)(e:Expr)(t:TE):Prop :=
 ∀(pins:List (Addr×Obj)) (s:Shared) (σ:St) (H:Hp) (Q:VK),Inv X pins σ H s->t σ H Q->wpAny (model X.prog X.w) X.A (eval e X.env) (EP X pins σ Q) X.xe s
def PT (X:Cx)(e:Expr)(t:TT):Prop :=
 ∀(pins:List (Addr×Obj)) (s:Shared) (σ:St) (H:Hp) (Q:Bool->Hp->Prop),Inv X pins σ H s->t σ H Q->wpAny (model X.prog X.w) X.A (isTrue e X.env (eval e X.env)) (TP X pins σ Q) X.xe s
def PW (X:Cx)(e:Expr)(t:TT):Prop :=
 ∀(whole:Sem Value) (pins:List (Addr×Obj)) (s:Shared) (σ:St) (H:Hp) (Q:Bool->Hp->Prop),Inv X pins σ H s->t σ H Q->wpAny (model X.prog X.w) X.A (isTrue e X.env whole) (TP X pins σ Q) X.xe s
theorem PW.pt {X:Cx}{e:Expr}{t:TT}(h:PW X e t):PT X e t:=h _
def PA (X:Cx)(es:List Expr)(t:TA):Prop :=
 ∀(pos:Pos) (pins:List (Addr×Obj)) (s:Shared) (σ:St) (H:Hp) (Q:List V->Hp->Prop),Inv X pins σ H s->t σ H Q->wpAny (model X.prog X.w) X.A (spliced (backTo pos (starEach es X.env))) (AP X pins σ Q) X.xe s
def PS (X:Cx)(st:Stmt)(t:TS):Prop :=
 ∀(pins:List (Addr×Obj)) (s:Shared) (σ:St) (H:Hp) (D:Ends),Inv X pins σ H s->t D σ H->wpAny (model X.prog X.w) X.A (exec st X.env) (SP X pins D) X.xe s
def PSs (X:Cx)(st:List Stmt)(t:TS):Prop :=
 ∀(pins:List (Addr×Obj)) (s:Shared) (σ:St) (H:Hp) (D:Ends),Inv X pins σ H s->t D σ H->wpAny (model X.prog X.w) X.A (execs st X.env) (SP X pins D) X.xe s
theorem thn {α:Type}{t:Sem α}{Q Q':α->Shared->Prop}{M:Model}{A:Around}{E:Value->Shared->Prop}{s:Shared}(h:wpAny M A t Q E s)(hQ:∀a s,Q a s->Q' a s):wpAny M A t Q' E s:=wpAny_mono h hQ fun _ _ x=>x
end L2
namespace L2
open PySem PySem.Spec PyProof.Rows
section
variable {X:Cx}
def tVar (i:Nat):TE:=fun σ H Q=>∃v,σ[i]?=some (some v)/\Q v H
def tC (v:V):TE:=fun _ H Q=>Q v H
theorem Ym {i:Nat}{x:Str}{pos:Pos}(hN:X.N[i]?=some x)(hv:Vis X.env.scope x) (hd:(x==("__debug__" : Str))=false:=by decide) (hcd:(x==("__classdict__" : Str))=false:=by decide):PE X (.Name x pos) (tVar i):=by
 intro pins s σ H Q I h
 obtain⟨v,e,h⟩:=h
 obtain⟨m,hn,hl⟩:=I.loc
 obtain⟨u,r,l⟩:=hl i x v hN e hv
 have fin:EP X pins σ Q u s:=⟨v,H,I,r,h⟩
 rcases l with⟨hk,hm⟩|⟨hk,c,hc,hcell⟩
 ·exact wpAny_Name (wpAny_loadName_local I.ok.kind hk hn hm fin) hd
 ·rcases hk with hk|hk
  ·exact wpAny_Name (wpAny_loadName_cell I.ok.kind hk hc hcell fin) hd
  ·exact wpAny_Name (wpAny_loadName_free I.ok.kind hk hc hcell fin hcd) hd
theorem pe_int {i j pos}:PE X (.Constant (.int i) j pos) (tC (.int i)):=fun _ _ _ H _ I h=>wpAny_Constant_int ⟨.int i,H,I.tok _,⟨_,rfl⟩,h⟩
theorem pe_bl {b j pos}:PE X (.Constant (.bool b) j pos) (tC (.bl b)):=fun _ _ _ H _ I h=>Constant_bool ⟨.bl b,H,I,rfl,h⟩
theorem pe_non {j pos}:PE X (.Constant .none j pos) (tC .non):=fun _ _ _ H _ I h=>Constant_none ⟨.non,H,I,rfl,h⟩
theorem pe_str {x j pos}:PE X (.Constant (.str x) j pos) (tC (.str x)):=fun _ _ _ H _ I h=>Calls.Constant_str ⟨.str x,H,I.tok _,⟨_,rfl⟩,h⟩
def Gl (X:Cx)(x:Str):Prop:=X.env.kindOf x=some .globalImplicit
theorem ld_glob {E:Value->Shared->Prop}{pins:List (Addr×Obj)}{s:Shared}{σ:St}{H:Hp}{x:Str}{u:Value}{pos:Pos}{Q:Value->Shared->Prop}(I:Inv X pins σ H s)(hg:Gl X x)(hm:X.mg x=some u)(h:Q u s)
  (hd:(x==("__debug__" : Str))=false:=by decide):wpAny (model X.prog X.w) X.A (eval (.Name x pos) X.env) Q E s :=
 Calls.Name_function_global I.ok.kind hg (Calls.loadGlobal_global (by rw[I.ok.glob];exact I.mod.glob.keeps I.bk) hm h) hd
theorem ld_blt {E:Value->Shared->Prop}{pins:List (Addr×Obj)}{s:Shared}{σ:St}{H:Hp}{x:Str}{u:Value}{pos:Pos}{Q:Value->Shared->Prop}(I:Inv X pins σ H s)(hg:Gl X x)(hm:X.mg x=none)(hv:bootBuiltins x=some u)(h:Q u s)
  (hn:x ≠ "__name__" := by decide) (hd:(x==("__debug__" : Str))=false:=by decide):wpAny (model X.prog X.w) X.A (eval (.Name x pos) X.env) Q E s:=by
 obtain⟨mb,h1,h2⟩:=I.mod.blt
 exact Calls.Name_function_global I.ok.kind hg (Calls.loadGlobal_builtin (by rw[I.ok.glob];exact I.mod.glob.keeps I.bk) hm (by rw[I.ok.blt];exact h1.keeps I.bk) ((h2 x hn).trans hv) h) hd
theorem pe_glob {x:Str}{v:V}{u:Value}{pos:Pos}(hg:Gl X x)(hm:X.mg x=some u)(r:RelV v u) (hd:(x==("__debug__" : Str))=false:=by decide):PE X (.Name x pos) (tC v) :=
 fun _ _ _ H _ I h=>ld_glob I hg hm ⟨v,H,I,r,h⟩ hd
theorem pe_bltn {x:Str}{v:V}{u:Value}{pos:Pos}(hg:Gl X x)(hm:X.mg x=none)(hv:bootBuiltins x=some u)(r:RelV v u) (hn:x ≠ "__name__" := by decide) (hd:(x==("__debug__" : Str))=false:=by decide):PE X (.Name x pos) (tC v) :=
 fun _ _ _ H _ I h=>ld_blt I hg hm hv ⟨v,H,I,r,h⟩ hn hd
variable {a b:Expr} {ta tb:TE} {pos:Pos}
def PC (X:Cx)(op:CmpOp)(a b:Expr)(t:TE):Prop :=
 ∀(pins:List (Addr×Obj)) (s:Shared) (σ:St) (H:Hp) (Q:VK),Inv X pins σ H s->t σ H Q ->
  wpAny (model X.prog X.w) X.A (eval a X.env) (fun v s₁=>wpAny (model X.prog X.w) X.A (eval b X.env) (fun u s₂=>wpAny (model X.prog X.w) X.A (compareOp op v u) (EP X pins σ Q) X.xe s₂) X.xe s₁) X.xe s
theorem nobehind (b:Expr){op:CmpOp}(h:op≠.In)(h2:op≠.NotIn):behindInMarks op b=false:=by
 have e1:(op==CmpOp.In)=false:=by cases op<;>first|rfl|exact absurd rfl h
 have e2:(op==CmpOp.NotIn)=false:=by cases op<;>first|rfl|exact absurd rfl h2
 cases b<;>simp[behindInMarks,e1,e2]
def tIsN (ta:TE):TE:=fun σ H Q=>ta σ H fun x H1=>Q (.bl (decide (x=.non))) H1
theorem RelV.none_iff {x:V}{v:Value}(r:RelV x v):(v==Value.none)=decide (x=.non):=by
 cases x with
 |non=>cases r;rfl
 |bl _=>cases r;rfl
 |int _=>obtain⟨t,rfl⟩:=r;rfl
 |str _=>obtain⟨t,rfl⟩:=r;rfl
 |byt _=>obtain⟨t,rfl⟩:=r;rfl
 |flt _=>obtain⟨t,rfl⟩:=r;rfl
 |ref _=>cases r;rfl
 |ty _=>cases r;rfl
theorem pc_isN {j pos'}(ha:PE X a ta):PC X .Is a (.Constant .none j pos') (tIsN ta):=by
 intro pins s σ H Q I h
 refine thn (ha pins s σ H _ I h) fun v s1 ⟨x,H1,I1,r1,q1⟩=>?_
 exact Constant_none (is_none_gen ⟨.bl _,H1,I1,by rw[r1.none_iff];rfl,q1⟩)
def tB (t:TE):TT:=fun σ H Q=>t σ H fun x H1=>∃c,x=.bl c/\Q c H1
theorem pe_cmp {op:CmpOp}{t:TE}(h:PC X op a b t)(h1:behindInMarks op b=false:=by first|exact nobehind _ (by decide) (by decide)|rfl):PE X (.Compare a [op] [b] pos) t:=fun pins s σ H Q I hw=>wpAny_Compare1 (h pins s σ H Q I hw) h1
theorem pt_cmp {op:CmpOp}{t:TE}(h:PC X op a b t)(h1:behindInMarks op b=false:=by first|exact nobehind _ (by decide) (by decide)|rfl):PT X (.Compare a [op] [b] pos) (tB t):=by
 intro pins s σ H Q I hw
 refine wpAny_isTrue_Compare1 (thn (h pins s σ H _ I hw) fun v s1 h1=>thn h1 fun u s2 h2=>thn h2 fun c s3 ⟨x,H1,I1,r1,q1⟩=>?_) h1
 obtain⟨d,rfl,q⟩:=q1
 cases r1
 exact wpAny_truthy_bool ⟨H1,I1,q⟩
theorem pt_val {e:Expr}{t:TE}(h:PE X e t)(he:∀whole,isTrue e X.env whole=(do let v <-whole;standAt e.pos;holding [v] (truthy v)):=by intro _;rfl):PT X e (tB t):=by
 intro pins s σ H Q I hw
 refine isTrue_plain (thn (h pins s σ H _ I hw) fun v s1 ⟨x,H1,I1,r1,q1⟩=>?_) (he _)
 obtain⟨d,rfl,q⟩:=q1
 cases r1
 exact wpAny_truthy_bool ⟨H1,I1,q⟩
variable {tA tB':TT} {rest:List Expr}
def tAnd (t u:TT):TT:=fun σ H Q=>t σ H fun c H1=>if c=true then u σ H1 Q else Q false H1
def tOr (t u:TT):TT:=fun σ H Q=>t σ H fun c H1=>if c=true then Q true H1 else u σ H1 Q
def tNot (t:TT):TT:=fun σ H Q=>t σ H fun c H1=>Q (!c) H1
theorem pw_and1 (ha:PT X a tA):PW X (.BoolOp .And [a] pos) tA:=by
 intro wh pins s σ H Q I h
 refine isTrue_and (thn (ha pins s σ H Q I h) fun c s1 e=>?_)
 cases c with
 |true=>exact isTrue_and_nil e
 |false=>exact e
theorem pw_or1 (ha:PT X a tA):PW X (.BoolOp .Or [a] pos) tA:=by
 intro wh pins s σ H Q I h
 refine isTrue_or (thn (ha pins s σ H Q I h) fun c s1 e=>?_)
 cases c with
 |false=>exact isTrue_or_nil e
 |true=>exact e
theorem pw_and (ha:PT X a tA)(hb:PW X (.BoolOp .And (b::rest) pos) tB'):PW X (.BoolOp .And (a::b::rest) pos) (tAnd tA tB'):=by
 intro wh pins s σ H Q I h
 refine isTrue_and (thn (ha pins s σ H _ I h) fun c s1 ⟨H1,I1,q1⟩=>?_)
 cases c with
 |true=>exact hb wh pins s1 σ H1 Q I1 q1
 |false=>exact⟨H1,I1,q1⟩
theorem pw_or (ha:PT X a tA)(hb:PW X (.BoolOp .Or (b::rest) pos) tB'):PW X (.BoolOp .Or (a::b::rest) pos) (tOr tA tB'):=by
 intro wh pins s σ H Q I h
 refine isTrue_or (thn (ha pins s σ H _ I h) fun c s1 ⟨H1,I1,q1⟩=>?_)
 cases c with
 |true=>exact⟨H1,I1,q1⟩
 |false=>exact hb wh pins s1 σ H1 Q I1 q1
theorem pt_not (ha:PT X a tA):PT X (.UnaryOp .Not a pos) (tNot tA):=by
 intro pins s σ H Q I h
 exact isTrue_not (ha pins s σ H (fun c H1=>Q (!c) H1) I h)
def tAndV (ta tb:TE):TE:=fun σ H Q=>ta σ H fun x H1=>∃c,x=.bl c/\if c=true then tb σ H1 Q else Q (.bl false) H1
def tOrV (ta tb:TE):TE:=fun σ H Q=>ta σ H fun x H1=>∃c,x=.bl c/\if c=true then Q (.bl true) H1 else tb σ H1 Q
def tNotV (ta:TE):TE:=fun σ H Q=>ta σ H fun x H1=>∃c,x=.bl c/\Q (.bl (!c)) H1
theorem pe_one {op}{t:TE}(h:PE X a t):PE X (.BoolOp op [a] pos) t:=fun pins s σ H Q I hw=>BoolOp_one (h pins s σ H Q I hw)
theorem pe_and (ha:PE X a ta)(hb:PE X (.BoolOp .And (b::rest) pos) tb):PE X (.BoolOp .And (a::b::rest) pos) (tAndV ta tb):=by
 intro pins s σ H Q I h
 refine BoolOp_and (thn (ha pins s σ H _ I h) fun v s1 ⟨x,H1,I1,r1,q1⟩=>?_)
 obtain⟨c,rfl,q1⟩:=q1
 cases r1
 refine wpAny_truthy_bool ?_
 cases c with
 |true=>exact hb pins s1 σ H1 Q I1 q1
 |false=>exact⟨.bl false,H1,I1,rfl,q1⟩
theorem pe_or (ha:PE X a ta)(hb:PE X (.BoolOp .Or (b::rest) pos) tb):PE X (.BoolOp .Or (a::b::rest) pos) (tOrV ta tb):=by
 intro pins s σ H Q I h
 refine BoolOp_or (thn (ha pins s σ H _ I h) fun v s1 ⟨x,H1,I1,r1,q1⟩=>?_)
 obtain⟨c,rfl,q1⟩:=q1
 cases r1
 refine wpAny_truthy_bool ?_
 cases c with
 |false=>exact hb pins s1 σ H1 Q I1 q1
 |true=>exact⟨.bl true,H1,I1,rfl,q1⟩
theorem pe_not (ha:PE X a ta):PE X (.UnaryOp .Not a pos) (tNotV ta):=by
 intro pins s σ H Q I h
 refine UnaryOp_ (thn (ha pins s σ H _ I h) fun v s1 ⟨x,H1,I1,r1,q1⟩=>?_)
 obtain⟨c,rfl,q1⟩:=q1
 cases r1
 exact not_of (wpAny_truthy_bool ⟨.bl (!c),H1,I1,rfl,q1⟩)
def tIf (t:TT)(ta tb:TE):TE:=fun σ H Q=>t σ H fun c H1=>if c=true then ta σ H1 Q else tb σ H1 Q
theorem pe_ifExp {c:Expr}(hc:PT X c tA)(ha:PE X a ta)(hb:PE X b tb):PE X (.IfExp c a b pos) (tIf tA ta tb):=by
 intro pins s σ H Q I h
 refine wpAny_IfExp (thn (hc pins s σ H _ I h) fun d s1 ⟨H1,I1,q1⟩=>?_)
 cases d with
 |true=>exact ha pins s1 σ H1 Q I1 q1
 |false=>exact hb pins s1 σ H1 Q I1 q1
end
end L2
namespace L2
open PySem PySem.Spec PyProof.Rows
def SqL (K:PySem.W.Frag)(H:Hp)(a:Addr)(xs:List V):Prop :=
 Rd H a (.lst xs) \/
  ∃(o:Obj) (its:Array Value) (n:Nat),K.lookup a=some o/\o.cls=.type "list"/\o.dict=none/\o.data=.seq its n/\its.size<=sizeLine/\Vals xs its.toList
def SqT (K:PySem.W.Frag)(H:Hp)(a:Addr)(xs:List V):Prop :=
 Rd H a (.tup xs) \/
  ∃(o:Obj) (its:Array Value) (n:Nat),K.lookup a=some o/\o.cls=.type "tuple"/\o.data=.seq its n/\its.size<=sizeLine/\Vals xs its.toList
def absV:Value->Option V
 |.none=>some .non
 |.bool b=>some (.bl b)
 |.int i _=>some (.int i)
 |.str x _=>some (.str x)
 |.bytes b _=>some (.byt b)
 |.float b _=>some (.flt b)
 |.ref a=>some (.ref a)
 |.type n=>some (.ty n)
 |_=>none
theorem RelV.abs {x:V}{u:Value}(r:RelV x u):absV u=some x:=by
 cases x with
 |non=>cases r;rfl
 |bl _=>cases r;rfl
 |int _=>obtain⟨t,rfl⟩:=r;rfl
 |str _=>obtain⟨t,rfl⟩:=r;rfl
 |byt _=>obtain⟨t,rfl⟩:=r;rfl
 |flt _=>obtain⟨t,rfl⟩:=r;rfl
 |ref _=>cases r;rfl
 |ty _=>cases r;rfl
theorem RelV.inj {x y:V}{u:Value}(r:RelV x u)(q:RelV y u):x=y:=Option.some.inj (r.abs.symm.trans q.abs)
theorem Vals.inj:∀{xs ys:List V} {us:List Value},Vals xs us->Vals ys us->xs=ys
 |_,_,_,.nil,.nil=>rfl
 |_,_,_,.cons r t,.cons r' t'=>by rw[r.inj r',Vals.inj t t']
section
variable {X:Cx} {pins:List (Addr×Obj)} {σ:St} {H:Hp} {s:Shared} {a:Addr} {xs ys:List V}
theorem SqL.of {K:PySem.W.Frag}(h:H a=some (.lst xs)):SqL K H a xs:=.inl (.inl h)
theorem SqT.of {K:PySem.W.Frag}(h:H a=some (.tup xs)):SqT K H a xs:=.inl (.inl h)
theorem Inv.list (I:Inv X pins σ H s)(h:SqL X.K H a xs):∃its:List Value,Vals xs its/\PlainL s.heap a its.toArray/\xs.length<=sizeLine:=by
 rcases h with h|⟨o,its,n,hk,hc,hd,hs,hz,r⟩
 ·obtain⟨z,its,n,r,e⟩:=h.ok I.hok
  exact⟨its,r,⟨_,n,e,rfl,rfl,rfl⟩,z⟩
 ·refine⟨its.toList,r,⟨o,n,I.kIn a o hk,hc,hd,by simpa using hs⟩,?_⟩
  have e:=r.length
  simp only[Array.length_toList] at e
  omega
theorem Inv.tuple (I:Inv X pins σ H s)(h:SqT X.K H a xs):∃its:List Value,Vals xs its/\IsTup s.heap a its.toArray/\xs.length<=sizeLine:=by
 rcases h with h|⟨o,its,n,hk,hc,hs,hz,r⟩
 ·obtain⟨z,its,r,p⟩:=h.ok I.hok
  exact⟨its,r,p,z⟩
 ·refine⟨its.toList,r,⟨o,I.kIn a o hk,hc,n,by simpa using hs⟩,?_⟩
  have e:=r.length
  simp only[Array.length_toList] at e
  omega
theorem Inv.list_inj (I:Inv X pins σ H s)(h:SqL X.K H a xs)(h':SqL X.K H a ys):xs=ys:=by
 obtain⟨its,r,⟨o,n,e,_,_,d⟩,_⟩:=I.list h
 obtain⟨its',r',⟨o',n',e',_,_,d'⟩,_⟩:=I.list h'
 rw[e] at e';cases e'
 rw[d] at d'
 injection d' with d1 _
 have:its=its':=by simpa using congrArg Array.toList d1
 subst this
 exact r.inj r'
theorem Inv.tuple_inj (I:Inv X pins σ H s)(h:SqT X.K H a xs)(h':SqT X.K H a ys):xs=ys:=by
 obtain⟨its,r,⟨o,e,_,n,d⟩,_⟩:=I.tuple h
 obtain⟨its',r',⟨o',e',_,n',d'⟩,_⟩:=I.tuple h'
 rw[e] at e';cases e'
 rw[d] at d'
 injection d' with d1 _
 have:its=its':=by simpa using congrArg Array.toList d1
 subst this
 exact r.inj r'
end
abbrev Cx.wish (X:Cx)(E:Value->Shared->Prop):Cx:={ X with xe:=E }
abbrev Cx.nox (X:Cx):Cx:=X.wish fun _ _=>False
theorem Cx.Ok.wish {X:Cx}(ok:X.Ok)(E:Value->Shared->Prop):(X.wish E).Ok :=
 ⟨ok.mod,ok.kind,ok.glob,ok.blt,ok.above,ok.inj,ok.has,ok.cab,ok.hd,ok.frames,ok.stk,ok.exf,ok.bs,ok.bsz,ok.noex,ok.exfs,ok.funs,ok.frf⟩
theorem Cx.Ok.unwish {X:Cx}{E:Value->Shared->Prop}(ok:(X.wish E).Ok):X.Ok :=
 ⟨ok.mod,ok.kind,ok.glob,ok.blt,ok.above,ok.inj,ok.has,ok.cab,ok.hd,ok.frames,ok.stk,ok.exf,ok.bs,ok.bsz,ok.noex,ok.exfs,ok.funs,ok.frf⟩
section
variable {X:Cx} {pins:List (Addr×Obj)} {σ:St} {H:Hp} {s:Shared} {E:Value->Shared->Prop}
theorem Inv.wish (I:Inv X pins σ H s)(E:Value->Shared->Prop):Inv (X.wish E) pins σ H s:=⟨I.ok.wish E,I.os,I.bare,I.base,I.loc,I.cell,I.free,I.freeC,I.pin,I.hok,I.len⟩
theorem Inv.unwish (I:Inv (X.wish E) pins σ H s):Inv X pins σ H s:=⟨I.ok.unwish,I.os,I.bare,I.base,I.loc,I.cell,I.free,I.freeC,I.pin,I.hok,I.len⟩
theorem SP.unwish {D:Ends}{f:Flow}{s':Shared}(h:SP (X.wish E) pins D f s'):SP X pins D f s':=by
 cases f with
 |next=>obtain⟨σ',H',I,q⟩:=h;exact⟨σ',H',I.unwish,q⟩
 |brk=>obtain⟨σ',H',I,q⟩:=h;exact⟨σ',H',I.unwish,q⟩
 |cont=>obtain⟨σ',H',I,q⟩:=h;exact⟨σ',H',I.unwish,q⟩
 |ret u=>obtain⟨v,σ',H',I,r,q⟩:=h;exact⟨v,σ',H',I.unwish,r,q⟩
theorem PE.nox {e:Expr}{t:TE}(h:PE X.nox e t):PE X e t:=fun pins s σ H Q I hw =>
 wpAny_mono (h pins s σ H Q (I.wish _) hw) (fun _ _ ⟨v,H',I',r,q⟩=>⟨v,H',I'.unwish,r,q⟩) fun _ _ z=>False.elim z
theorem PT.nox {e:Expr}{t:TT}(h:PT X.nox e t):PT X e t:=fun pins s σ H Q I hw =>
 wpAny_mono (h pins s σ H Q (I.wish _) hw) (fun _ _ ⟨H',I',q⟩=>⟨H',I'.unwish,q⟩) fun _ _ z=>False.elim z
theorem PSs.nox {st:List Stmt}{t:TS}(h:PSs X.nox st t):PSs X st t:=fun pins s σ H D I hw =>
 wpAny_mono (h pins s σ H D (I.wish _) hw) (fun _ _ q=>q.unwish) fun _ _ z=>False.elim z
end
section
variable {X:Cx} {st:Stmt} {rest:List Stmt} {t u:TS} {e:Expr} {te:TE} {pos:Pos}
def tNext:TS:=fun D σ H=>D.nx σ H
def tSeq (t u:TS):TS:=fun D σ H=>t { D with nx:=u D } σ H
theorem pss_nil:PSs X [] tNext:=fun _ _ σ H _ I h=>wpAny_execs_nil ⟨σ,H,I,h⟩
theorem pss_cons (h1:PS X st t)(h2:PSs X rest u):PSs X (st::rest) (tSeq t u):=by
 intro pins s σ H D I h
 refine wpAny_execs_cons (thn (h1 pins s σ H { D with nx:=u D } I h) fun f s1 q=>?_)
 cases f with
 |next =>
  obtain⟨σ',H',I',q⟩:=q
  exact h2 pins s1 σ' H' D I' q
 |ret v=>exact q
 |brk=>exact q
 |cont=>exact q
theorem pss_one (h1:PS X st t):PSs X [st] t:=by
 intro pins s σ H D I h
 refine wpAny_execs_cons (thn (h1 pins s σ H D I h) fun f s1 q=>?_)
 cases f with
 |next=>exact wpAny_execs_nil q
 |ret v=>exact q
 |brk=>exact q
 |cont=>exact q
theorem Inv.quiet {pins:List (Addr×Obj)}{σ:St}{H:Hp}{s:Shared}(I:Inv X pins σ H s):interactive X.env=false:=by simp[interactive,I.ok.kind]
def tDrop (te:TE):TS:=fun D σ H=>te σ H fun _ H1=>D.nx σ H1
theorem ps_expr (he:PE X e te)(hs:swapsWith e none pos.line X.env=pure false:=by rfl):PS X (.Expr e pos) (tDrop te):=by
 intro pins s σ H D I h
 exact wpAny_Expr_any (thn (he pins s σ H _ I h) fun v s1 ⟨x,H1,I1,r1,q1⟩=>⟨σ,H1,I1,q1⟩) I.quiet hs
def tRet (te:TE):TS:=fun D σ H=>te σ H D.rt
theorem ps_ret (he:PE X e te):PS X (.Return (some e) pos) (tRet te):=by
 intro pins s σ H D I h
 exact wpAny_Return_some (thn (he pins s σ H _ I h) fun v s1 ⟨x,H1,I1,r1,q1⟩=>⟨x,σ,H1,I1,r1,q1⟩)
def tIfS (c:TT)(t u:TS):TS:=fun D σ H=>c σ H fun b H1=>if b=true then t D σ H1 else u D σ H1
theorem ps_if {c:Expr}{a b:List Stmt}{tc:TT}(hc:PT X c tc)(ha:PSs X a t)(hb:PSs X b u):PS X (.If c a b pos) (tIfS tc t u):=by
 intro pins s σ H D I h
 refine wpAny_If (thn (hc pins s σ H _ I h) fun d s1 ⟨H1,I1,q1⟩=>?_)
 cases d with
 |true=>exact ha pins s1 σ H1 D I1 q1
 |false=>exact hb pins s1 σ H1 D I1 q1
end
abbrev TG:=V->St->Hp->(St->Hp->Prop)->Prop
abbrev TGs:=List V->St->Hp->(St->Hp->Prop)->Prop
def PG (X:Cx)(target:Expr)(t:TG):Prop :=
 ∀(pins:List (Addr×Obj)) (s:Shared) (σ:St) (H:Hp) (v:V) (u:Value) (Q:St->Hp->Prop),Inv X pins σ H s->RelV v u->t v σ H Q ->
  wpAny (model X.prog X.w) X.A (assign target X.env u) (fun _ s'=>∃σ' H',Inv X pins σ' H' s'/\Q σ' H') X.xe s
def PGs (X:Cx)(ts:List Expr)(t:TGs):Prop :=
 ∀(pins:List (Addr×Obj)) (s:Shared) (σ:St) (H:Hp) (vs:List V) (us:List Value) (Q:St->Hp->Prop),Inv X pins σ H s->Vals vs us->t vs σ H Q ->
  wpAny (model X.prog X.w) X.A (assignInOrder ((assignEach ts X.env).map (·.2)) us) (fun _ s'=>∃σ' H',Inv X pins σ' H' s'/\Q σ' H') X.xe s
abbrev TSet:=V->V->V->Hp->(Hp->Prop)->Prop
def PSet (X:Cx)(t:TSet):Prop :=
 ∀(pins:List (Addr×Obj)) (s:Shared) (σ:St) (H:Hp) (o i v:V) (ov iv u:Value) (Q:Hp->Prop),Inv X pins σ H s->RelV o ov->RelV i iv->RelV v u->t o i v H Q ->
  wpAny (model X.prog X.w) X.A (setItem ov iv u) (fun _ s'=>∃H',Inv X pins σ H' s'/\Q H') X.xe s
section
variable {X:Cx} {pos:Pos}
def gName (i:Nat):TG:=fun v σ H Q=>Q (σ.set i (some v)) H
theorem pg_name {i:Nat}{x:Str}(hN:X.N.Nodup)(hi:X.N[i]?=some x)(hx:Loc X.env.scope x)(hf:X.fn x=true\/X.env.scope.names.lookup x=some .local:=by first|exact .inl rfl|exact .inr rfl|assumption):PG X (.Name x pos) (gName i):=by
 intro pins s σ H v u Q I r h
 exact wpAny_assign_Name (store_ok I hN hi hx r (fun s' I'=>⟨_,H,I',h⟩) hf)
def gNil:TGs:=fun vs σ H Q=>vs=[]/\Q σ H
def gCons (t:TG)(u:TGs):TGs:=fun vs σ H Q=>∃v r,vs=v::r/\t v σ H fun σ' H'=>u r σ' H' Q
theorem pgs_nil:PGs X [] gNil:=by
 intro pins s σ H vs us Q I r h
 obtain⟨e,h⟩:=h
 subst e
 cases r
 exact assignInOrder_nil ⟨σ,H,I,h⟩
theorem pgs_cons {e:Expr}{es:List Expr}{t:TG}{u:TGs}(h1:PG X e t)(h2:PGs X es u)(hs:(assignEach (e::es) X.env).map (·.2)=assign e X.env::(assignEach es X.env).map (·.2):=by rfl):PGs X (e::es) (gCons t u):=by
 intro pins s σ H vs us Q I r h
 obtain⟨v,vr,e1,h⟩:=h
 subst e1
 cases r with
 |cons r rr =>
  rw[hs]
  refine assignInOrder_cons (thn (h1 pins s σ H _ _ _ I r h) fun _ s1 ⟨σ1,H1,I1,q1⟩=>?_)
  exact h2 pins s1 σ1 H1 _ _ Q I1 rr q1
def gSub (to ti:TE)(t:TSet):TG:=fun v σ H Q=>to σ H fun o H1=>ti σ H1 fun i H2=>t o i v H2 fun H3=>Q σ H3
def tAsg (te:TE)(g:TG):TS:=fun D σ H=>te σ H fun x H1=>g x σ H1 D.nx
theorem ps_asg {tg e:Expr}{te:TE}{g:TG}(he:PE X e te)(hg:PG X tg g)(hs:swapsWithSole [tg] e pos.line X.env=pure false:=by rfl)(hw:swappedStores [tg] e X.env=pure none:=by rfl)(h1:(assignEach [tg] X.env).map (·.2)=[assign tg X.env]:=by rfl):PS X (.Assign [tg] e pos) (tAsg te g):=by
 intro pins s σ H D I h
 refine wpAny_Assign_stores (thn (he pins s σ H _ I h) fun v s1 ⟨x,H1,I1,r1,q1⟩=>?_) hs hw
 rw[h1]
 exact thn (hg pins s1 σ H1 x v _ I1 r1 q1) fun _ s2 q=>q
theorem ps_set {i:Nat}{x:Str}{e:Expr}{te:TE}{pos':Pos}(hN:X.N.Nodup)(hi:X.N[i]?=some x)(hx:Loc X.env.scope x)(he:PE X e te)(hs:swapsWith e (some (.Name x pos')) pos.line X.env=pure false:=by rfl)(hf:X.fn x=true\/X.env.scope.names.lookup x=some .local:=by first|exact .inl rfl|exact .inr rfl|assumption) :
  PS X (.Assign [.Name x pos'] e pos) (tAsg te (gName i)):=by
 intro pins s σ H D I h
 refine wpAny_Assign_Name (thn (he pins s σ H _ I h) fun v s1 ⟨y,H1,I1,r1,q1⟩=>?_) hs
 exact store_ok I1 hN hi hx r1 (fun s2 I2=>⟨_,H1,I2,q1⟩) hf
end
section
variable {X:Cx} {pos:Pos}
end
structure It where
 go:Nat->Hp->Prop
 yld:Nat->Hp->V->Hp->Prop
 stop:Nat->Hp->Prop
def FpOk (X:Cx)(pins:List (Addr×Obj))(H:Hp)(b:Addr):Prop :=
 H b=none/\b≠X.env.locals/\b ∉ X.fs/\(b∈X.ex\/X.s₀.heap.objs.size<=b)/\(∀x c,X.env.cells.lookup x=some c->c≠b)/\∀p∈X.pn++pins,p.1≠b
theorem Inv.fpOk {X:Cx}{pins:List (Addr×Obj)}{σ:St}{H H':Hp}{s:Shared}{b:Addr}(I:Inv X pins σ H s)(hb:s.heap.objs.size<=b)(hn:H' b=none):FpOk X pins H' b:=by
 refine⟨hn,Nat.ne_of_gt (Nat.lt_of_lt_of_le I.lt hb),I.nofs hb,.inr (Nat.le_trans I.sz hb),fun x c e z=>?_,fun p hp z=>?_⟩
 ·obtain⟨v,q⟩:=I.cell x c e
  exact absurd (Nat.lt_of_lt_of_le q.lt (by rw[z];exact hb)) (Nat.lt_irrefl _)
 ·exact absurd (Nat.lt_of_lt_of_le (Heap.lt_size (I.pin p hp).1) (by rw[z];exact hb)) (Nat.lt_irrefl _)
structure Turn (P:Program) (w:World) (K:PySem.W.Frag) (tg:Expr) (J:It) (fp:List Addr) (it:Addr) (tn:Nat->Heap->Prop):Prop where
 mem:it∈fp
 obj:∀i h,tn i h->∀b∈fp,∃o,h.get? b=some o/\∀v,o.data≠.cell v
 keep:∀i h h',tn i h->(∀b∈fp,∀o,h.get? b=some o->h'.get? b=some o)->tn i h'
 item:∀(X:Cx),X.prog=P->X.w=w->X.K=K->X.calm=true->∀(i:Nat) (pins:List (Addr×Obj)) (s:Shared) (σ:St) (H:Hp) (E:Value->Shared->Prop),Inv X pins σ H s->(∀b∈fp,FpOk X pins H b)->tn i s.heap->J.go i H ->
  wpAny (model P w) X.A (pyNext (.ref it)) (fun r s1=>∃u,r=some u /\
   wpAny (model P w) X.A (letOwnedTupleGo tg (.ref it) u) (fun _ s2=>∃x H',Inv X pins σ H' s2/\RelV x u/\J.yld i H x H'/\tn (i+1) s2.heap/\∀b∈fp,H' b=none) E s1) E s
 done:∀(X:Cx),X.prog=P->X.w=w->X.K=K->X.calm=true->∀(i:Nat) (pins:List (Addr×Obj)) (s:Shared) (σ:St) (H:Hp) (E:Value->Shared->Prop),Inv X pins σ H s->(∀b∈fp,FpOk X pins H b)->tn i s.heap->J.stop i H ->
  wpAny (model P w) X.A (pyNext (.ref it)) (fun r s1=>r=none/\Inv X pins σ H s1) E s
 self:∀(A:Around) (i:Nat) (s:Shared) (Q:Value->Shared->Prop) (E:Value->Shared->Prop),tn i s.heap->Q (.ref it) s->wpAny (model P w) A (pyIter (.ref it)) Q E s
abbrev TI:=St->Hp->(It->Hp->Prop)->Prop
def PIE (X:Cx)(pins:List (Addr×Obj))(σ:St)(tg:Expr)(R:It->Hp->Prop)(itv:Value)(s2:Shared):Prop :=
 ∃(it:Addr) (fp:List Addr) (tn:Nat->Heap->Prop) (J:It) (H':Hp),itv=.ref it/\Inv X pins σ H' s2/\Turn X.prog X.w X.K tg J fp it tn/\tn 0 s2.heap/\(∀b∈fp,FpOk X pins H' b)/\R J H'
def PI (X:Cx)(tg iter:Expr)(wi:TI):Prop :=
 ∀(pins:List (Addr×Obj)) (s:Shared) (σ:St) (H:Hp) (R:It->Hp->Prop),Inv X pins σ H s->wi σ H R ->
  wpAny (model X.prog X.w) X.A (eval iter X.env) (fun v s1=>wpAny (model X.prog X.w) X.A (pyIter v) (PIE X pins σ tg R) X.xe s1) X.xe s
theorem go_of {M:Model}{A:Around}{E:Value->Shared->Prop}{s:Shared}{tg:Expr}{it:Addr}{u:Value}{o:Obj}{n:String}{vs:Array Value}{Q:Unit->Shared->Prop}(ho:s.heap.get? it=some o)(hc:o.cls=.type n)(hd:o.data=.fields vs)
  (hn:["enumerate", "zip", "dict_itemiterator", "dict_reverseitemiterator", "odict_iterator", "itertools.zip_longest", "itertools.pairwise"].contains n=false) (hQ:Q () s):wpAny M A (letOwnedTupleGo tg (.ref it) u) Q E s:=by
 unfold letOwnedTupleGo
 cases tg<;>first
  |exact wpAny_pure hQ
  |(cases u<;>first
    |exact wpAny_pure hQ
    |(refine wpAny_bind (wpAny_load ho ?_)
      rw[hc,hd]
      show wpAny M A (if(["enumerate", "zip", "dict_itemiterator", "dict_reverseitemiterator", "odict_iterator", "itertools.zip_longest", "itertools.pairwise"].contains n&&vs[0]?==some (rawInt _))=true then _ else _) Q E s
      rw[if_neg (by intro h;rw[hn,Bool.false_and] at h;cases h)]
      exact wpAny_pure hQ))
def Itl (K:PySem.W.Frag)(a:Addr):It :=
 ⟨fun i H=>∃xs x,SqL K H a xs/\xs[i]?=some x,fun i H x H'=>H'=H/\∀xs,SqL K H a xs->xs[i]?=some x,fun i H=>∃xs,SqL K H a xs/\xs.length<=i⟩
def Itt (K:PySem.W.Frag)(a:Addr):It :=
 ⟨fun i H=>∃xs x,SqT K H a xs/\xs[i]?=some x,fun i H x H'=>H'=H/\∀xs,SqT K H a xs->xs[i]?=some x,fun i H=>∃xs,SqT K H a xs/\xs.length<=i⟩
def Itr (lo:Int)(n:Nat):It:=⟨fun i _=>i<n,fun i H x H'=>H'=H/\x=.int (lo+i),fun i _=>n<=i⟩
theorem turn_list {P:Program}{w:World}{K:PySem.W.Frag}{tg:Expr}(a it:Addr):Turn P w K tg (Itl K a) [it] it (fun i h=>h.IsListIter it a i) where
 mem:=by simp
 obj:=fun i h st b hb=>by
  have e:b=it:=by simpa using hb
  subst e
  obtain⟨o,e,c,d⟩:=st
  exact⟨o,e,fun v z=>by rw[d] at z;cases z⟩
 keep:=fun i h h' st k=>st.at fun o e=>k it (by simp) o e
 item:=by
  intro X hP hw hK hc i pins s σ H E I hf st hg
  subst hP hw hK
  obtain⟨xs,x,hq,hx⟩:=hg
  obtain⟨its,rv,p,hz⟩:=I.list hq
  obtain⟨u,hu,ru⟩:=rv.get hx
  obtain⟨f0,f1,f2,f3,f4,f5⟩:=hf it (by simp)
  refine wpAny_pyNext_list_item st p.isList (x:=u) (by simpa using hu) fun h' st' sb=>?_
  have I1:Inv X pins σ H { s with heap:=h' }:=I.turned (t':=s.toks) (fun b o hb e=>(sb.2 b hb).trans e) f0 f1 f3 f4 f5
  obtain⟨o,e,c,d⟩:=id st'
  exact⟨u,rfl,go_of (s:={ s with heap:=h' }) e c d (by decide) ⟨x,H,I1,ru,⟨rfl,fun ys hy=>by rw[I.list_inj hy hq];exact hx⟩,st',fun b hb=>(hf b hb).1⟩⟩
 done:=by
  intro X hP hw hK hc i pins s σ H E I hf st hg
  subst hP hw hK
  obtain⟨xs,hq,hx⟩:=hg
  obtain⟨its,rv,p,hz⟩:=I.list hq
  obtain⟨f0,f1,f2,f3,f4,f5⟩:=hf it (by simp)
  have hl:=rv.length
  exact wpAny_pyNext_list_end (I.ok.hd hc) st p.isList (by simp;omega) fun h' eb=>⟨rfl,I.turned (t':=s.toks) (fun b o hb e=>eb b o hb e) f0 f1 f3 f4 f5⟩
 self:=fun _ _ _ _ _ st h=>wpAny_pyIter_listiter st h
theorem turn_tuple {P:Program}{w:World}{K:PySem.W.Frag}{tg:Expr}(a it:Addr):Turn P w K tg (Itt K a) [it] it (fun i h=>h.IsTupleIter it a i) where
 mem:=by simp
 obj:=fun i h st b hb=>by
  have e:b=it:=by simpa using hb
  subst e
  obtain⟨o,e,c,d⟩:=st
  exact⟨o,e,fun v z=>by rw[d] at z;cases z⟩
 keep:=fun i h h' st k=>st.at fun o e=>k it (by simp) o e
 item:=by
  intro X hP hw hK hc i pins s σ H E I hf st hg
  subst hP hw hK
  obtain⟨xs,x,hq,hx⟩:=hg
  obtain⟨its,rv,p,hz⟩:=I.tuple hq
  obtain⟨u,hu,ru⟩:=rv.get hx
  obtain⟨f0,f1,f2,f3,f4,f5⟩:=hf it (by simp)
  refine wpAny_pyNext_tuple_item st (show s.heap.IsTuple a its.toArray from p) (x:=u) (by simpa using hu) fun h' st' sb=>?_
  have I1:Inv X pins σ H { s with heap:=h' }:=I.turned (t':=s.toks) (fun b o hb e=>(sb.2 b hb).trans e) f0 f1 f3 f4 f5
  obtain⟨o,e,c,d⟩:=id st'
  exact⟨u,rfl,go_of (s:={ s with heap:=h' }) e c d (by decide) ⟨x,H,I1,ru,⟨rfl,fun ys hy=>by rw[I.tuple_inj hy hq];exact hx⟩,st',fun b hb=>(hf b hb).1⟩⟩
 done:=by
  intro X hP hw hK hc i pins s σ H E I hf st hg
  subst hP hw hK
  obtain⟨xs,hq,hx⟩:=hg
  obtain⟨its,rv,p,hz⟩:=I.tuple hq
  obtain⟨f0,f1,f2,f3,f4,f5⟩:=hf it (by simp)
  have hl:=rv.length
  exact wpAny_pyNext_tuple_end (I.ok.hd hc) st (show s.heap.IsTuple a its.toArray from p) (by simp;omega) fun h' eb=>⟨rfl,I.turned (t':=s.toks) (fun b o hb e=>eb b o hb e) f0 f1 f3 f4 f5⟩
 self:=fun _ _ _ _ _ st h=>wpAny_pyIter_tupleiter st h
theorem turn_range {P:Program}{w:World}{K:PySem.W.Frag}{tg:Expr}(it:Addr)(lo:Int)(n:Nat):Turn P w K tg (Itr lo n) [it] it (fun i h=>IsRangeIter h it (lo+(i:Nat)*1) ((n:Int) - (i:Nat)) 1) where
 mem:=by simp
 obj:=fun i h st b hb=>by
  have e:b=it:=by simpa using hb
  subst e
  exact⟨_,st,fun v z=>by
   have z':Data.fields _=Data.cell v:=z
   cases z'⟩
 keep:=fun i h h' st k=>k it (by simp) _ st
 item:=by
  intro X hP hw hK hc i pins s σ H E I hf st hg
  subst hP hw hK
  obtain⟨f0,f1,f2,f3,f4,f5⟩:=hf it (by simp)
  have W:=Walks.range (prog:=X.prog) (w:=X.w) (I.ok.hd hc) it lo 1 n
  refine W.item i s _ _ hg st fun v h' tk hv st' kk=>?_
  obtain⟨t,rfl⟩:=hv
  have I1:Inv X pins σ H { s with heap:=h',toks:=tk }:=I.turned (fun b o hb e=>kk b o (by simpa using hb) e) f0 f1 f3 f4 f5
  refine⟨_,rfl,go_of (s:={ s with heap:=h',toks:=tk }) (n := "range_iterator") st' rfl rfl (by decide) ⟨.int (lo+i),H,I1,⟨t,?_⟩,⟨rfl,rfl⟩,st',fun b hb=>(hf b hb).1⟩⟩
  rw[Int.mul_one]
 done:=by
  intro X hP hw hK hc i pins s σ H E I hf st hg
  subst hP hw hK
  obtain⟨f0,f1,f2,f3,f4,f5⟩:=hf it (by simp)
  exact wpAny_pyNext_range_end (I.ok.hd hc) st (by have:n<=i:=hg;omega) fun h' eb=>⟨rfl,I.turned (t':=s.toks) (fun b o hb e=>eb b o hb e) f0 f1 f3 f4 f5⟩
 self:=fun _ _ _ _ _ st h=>wpAny_pyIter_rangeiter st h
end L2
namespace L2
open PySem PySem.Spec PyProof.Rows
section
variable {X:Cx} {tg:Expr}
theorem range_it {pins:List (Addr×Obj)}{σ:St}{H:Hp}{s:Shared}{R:It->Hp->Prop}{E:Value->Shared->Prop}{lo hi:Int}{t u v:Tok}{tk:Nat}(I:Inv X pins σ H s)(h1:-(2 ^ 62)<=lo)(h2:lo<2 ^ 62)(h3:-(2 ^ 62)<=hi)(h4:hi<2 ^ 62)(q:R (Itr lo (hi - lo).toNat) H):wpAny (model X.prog X.w) X.A (pyIter (.ref s.heap.objs.size)) (PIE X pins σ tg R) E { s with heap:=s.heap.push { cls:=.type "range", data:=.fields #[.int lo t,.int hi u,.int 1 v] },toks:=tk }:=by
 refine wpAny_pyIter_range (IsRange.new ..) (small_one h1 h2 h3 h4) ?_
 have I1:Inv X pins σ H { s with heap:=s.heap.push { cls:=.type "range", data:=.fields #[.int lo t,.int hi u,.int 1 v] },toks:=tk }:=I.kept fun b o e=>Heap.get?_push_of_some _ e
 refine⟨(s.heap.push { cls:=.type "range", data:=.fields #[.int lo t,.int hi u,.int 1 v] }).objs.size,[(s.heap.push { cls:=.type "range", data:=.fields #[.int lo t,.int hi u,.int 1 v] }).objs.size],_,_,H,rfl,
  I1.kept (t':=tk) fun b o e=>Heap.get?_push_of_some _ e,turn_range _ lo (hi - lo).toNat,?_,fun b hb=>?_,q⟩
 ·have e1:lo+((0:Nat):Int)*1=lo:=by simp
  have e2:(((hi - lo).toNat:Nat):Int) - ((0:Nat):Int)=Builtin.Range.rangeSize lo hi 1:=by rw[rangeSize_one];split<;>omega
  show IsRangeIter _ _ (lo+((0:Nat):Int)*1) ((((hi - lo).toNat:Nat):Int) - ((0:Nat):Int)) 1
  rw[e1,e2]
  exact Heap.get?_push_size _ rfl
 ·have e:b=(s.heap.push { cls:=.type "range", data:=.fields #[.int lo t,.int hi u,.int 1 v] }).objs.size:=by simpa using hb
  subst e
  exact I1.fpOk (Nat.le_refl _) (I1.hok.fresh (Nat.le_refl _))
def iRng1 (ta:TA):TI:=fun σ H R=>ta σ H fun vs H1=>∃j:Int,vs=[.int j]/\-(2 ^ 62)<=j/\j<2 ^ 62/\R (Itr 0 j.toNat) H1
theorem pi_range1 {a:Expr}{ta:TA}{p pos:Pos} (hg:Gl X "range") (hm:X.mg "range" = none) (ha:PA X [a] ta) (hs:starEach [a] X.env=[(false,eval a X.env)]:=by rfl):PI X tg (.Call (.Name "range" p) [a] [] pos) (iRng1 ta):=by
 intro pins s σ H R I h
 refine Call_ (ld_blt I hg hm boot_range (PyProof.Rows.callWith_type1 (thn (ha pos pins s σ H _ I h) fun us s1 ⟨vs,H1,I1,r1,q1⟩=>?_) hs rfl))
 obtain⟨j,e,q1,q2,q⟩:=q1
 subst e
 cases r1 with
 |cons r rr =>
  cases rr
  obtain⟨t,rfl⟩:=r
  exact call_range_1 (range_it I1 (by omega) (by omega) q1 q2 (by simpa using q))
def tFor (wi:TI)(g:TG)(tb:TS):TS:=fun D σ H=>wi σ H fun J H1=>∃W:Nat->Nat->St->Hp->Prop,(∃m,W 0 m σ H1)/\∀i m σ H,W i m σ H ->
 (J.stop i H/\D.nx σ H)\/(J.go i H/\∃N:St->Hp->Prop,(∀σ' H',N σ' H'->∃m',m'<m/\W (i+1) m' σ' H')/\∀x H',J.yld i H x H'->g x σ H' fun σ2 H2=>tb { D with nx:=N,ct:=N,bk:=D.nx } σ2 H2)
def pinsAt (fp:List Addr)(h:Heap):List (Addr×Obj):=fp.filterMap fun b=>(h.get? b).map fun o=>(b,o)
theorem Yn {fp:List Addr}{h:Heap}{b:Addr}{o:Obj}(hb:b∈fp)(e:h.get? b=some o):(b,o)∈pinsAt fp h:=List.mem_filterMap.mpr ⟨b,hb,by rw[e];rfl⟩
theorem of_pinsAt {fp:List Addr}{h:Heap}{p:Addr×Obj}(hp:p∈pinsAt fp h):p.1∈fp/\h.get? p.1=some p.2:=by
 obtain⟨b,hb,e⟩:=List.mem_filterMap.mp hp
 cases q:h.get? b with
 |none=>rw[q] at e;cases e
 |some o =>
  rw[q] at e
  have e':(b,o)=p:=Option.some.inj e
  subst e'
  exact⟨hb,q⟩
theorem Inv.pinned {pins:List (Addr×Obj)}{σ:St}{H:Hp}{s:Shared}{fp:List Addr}(I:Inv X pins σ H s)(hf:∀b∈fp,FpOk X pins H b)(ho:∀b∈fp,∃o,s.heap.get? b=some o/\∀v,o.data≠.cell v):Inv X (pins++pinsAt fp s.heap) σ H s :=
 I.pins_of fun p hp=>(List.mem_append.mp hp).elim (fun z=>I.pin p (List.mem_append_right _ z)) fun z=>by
  obtain⟨hb,e⟩:=of_pinsAt z
  obtain⟨f0,f1,f2,_⟩:=hf p.1 hb
  obtain⟨o,e',d⟩:=ho p.1 hb
  rw[e] at e';cases e'
  exact⟨e,f0,f1,f2,d⟩
theorem Inv.unpinned {pins pl:List (Addr×Obj)}{σ:St}{H:Hp}{s:Shared}(I:Inv X (pins++pl) σ H s):Inv X pins σ H s:=I.pins_of fun p hp=>I.pin p (List.mem_append_right _ (List.mem_append_left _ hp))
theorem ps_for {iter:Expr}{body:List Stmt}{wi:TI}{g:TG}{tb:TS}{pos:Pos}(hp:PassesOwn (model X.prog X.w) X.A X.env X.xe)(hc:X.calm=true)(hi:PI X tg iter wi)(hg:PG X tg g)(hb:PSs X body tb)(hs:∀x,foldedSetIterable iter X.env x=pure x:=by intro _;rfl):PS X (.For tg iter body [] pos) (tFor wi g tb):=by
 intro pins s σ H D I h
 refine wpAny_For (thn (hi pins s σ H _ I h) fun v s1 h1=>thn h1 fun itv s2 h2=>?_) hs
 obtain⟨it,fp,tn,J,H2,e,I2,T,st2,f2,W,⟨m0,w0⟩,turn⟩:=h2
 subst e
 have stat:∀{H':Hp},(∀b∈fp,H' b=none)->∀b∈fp,FpOk X pins H' b:=fun hn b hb=>⟨hn b hb,(f2 b hb).2⟩
 refine codeAny_forLoop_any (fun n s'=>∃i σ' H',Inv X pins σ' H' s'/\tn i s'.heap/\(∀b∈fp,H' b=none)/\W i n σ' H') ?_ m0 ⟨0,σ,H2,I2,st2,fun b hb=>(f2 b hb).1,w0⟩
 rintro n s3 ⟨i,σ3,H3,I3,st3,fr3,w3⟩
 rcases turn i n σ3 H3 w3 with⟨stop,qn⟩|⟨go,N,hN,step⟩
 ·refine wpAny_passesOwn hp (thn (T.done X rfl rfl rfl hc i pins s3 σ3 H3 X.xe I3 (stat fr3) st3 stop) fun r s4 ⟨hr,I4⟩=>?_)
  subst hr
  exact wpAny_execs_nil ⟨σ3,H3,I4,qn⟩
 ·refine wpAny_passesOwn hp (thn (T.item X rfl rfl rfl hc i pins s3 σ3 H3 X.xe I3 (stat fr3) st3 go) fun r s4 ⟨u,hr,h4⟩=>?_)
  subst hr
  refine wpAny_passesOwn hp (thn h4 fun _ s5 ⟨x,H5,I5,r5,y5,st5,fr5⟩=>?_)
  have I5':=I5.pinned (stat fr5) (T.obj _ _ st5)
  refine wpAny_passesOwn hp (thn (hg _ s5 σ3 H5 x u _ I5' r5 (step x H5 y5)) fun _ s6 ⟨σ6,H6,I6,q6⟩=>?_)
  refine wpAny_passesOwn hp (thn (hb _ s6 σ6 H6 _ I6 q6) fun f s7 q7=>?_)
  have again:∀{σ7:St} {H7:Hp},Inv X (pins++pinsAt fp s5.heap) σ7 H7 s7->N σ7 H7->∃m,m<n/\∃i σ' H',Inv X pins σ' H' s7/\tn i s7.heap/\(∀b∈fp,H' b=none)/\W i m σ' H':=fun {σ7 H7} I7 n7=>by
   obtain⟨m',hm,w7⟩:=hN σ7 H7 n7
   refine⟨m',hm,i+1,σ7,H7,I7.unpinned,T.keep _ _ _ st5 fun b hb o e=>(I7.pin (b,o) (List.mem_append_right _ (List.mem_append_right _ (Yn hb e)))).1,fun b hb=>?_,w7⟩
   obtain⟨o,e,d⟩:=T.obj _ _ st5 b hb
   exact(I7.pin (b,o) (List.mem_append_right _ (List.mem_append_right _ (Yn hb e)))).2.1
  cases f with
  |next=>obtain⟨σ7,H7,I7,n7⟩:=q7;exact again I7 n7
  |cont=>obtain⟨σ7,H7,I7,n7⟩:=q7;exact again I7 n7
  |brk=>obtain⟨σ7,H7,I7,q7⟩:=q7;exact⟨σ7,H7,I7.unpinned,q7⟩
  |ret v=>obtain⟨x7,σ7,H7,I7,r7,q7⟩:=q7;exact⟨x7,σ7,H7,I7.unpinned,r7,q7⟩
end
end L2
namespace L2
open PySem PySem.Spec PyProof.Rows
abbrev R2:=V->V->Hp->VK->Prop
def OpR (X:Cx)(f:Value->Value->Sem Value)(r:R2):Prop :=
 ∀(pins:List (Addr×Obj)) (s:Shared) (σ:St) (H:Hp) (x y:V) (v u:Value) (Q:VK),Inv X pins σ H s->RelV x v->RelV y u->r x y H Q ->
  wpAny (model X.prog X.w) X.A (f v u) (EP X pins σ Q) X.xe s
def UnR (X:Cx)(f:Value->Sem Value)(r:V->Hp->VK->Prop):Prop :=
 ∀(pins:List (Addr×Obj)) (s:Shared) (σ:St) (H:Hp) (x:V) (v:Value) (Q:VK),Inv X pins σ H s->RelV x v->r x H Q ->
  wpAny (model X.prog X.w) X.A (f v) (EP X pins σ Q) X.xe s
def CallR (X:Cx)(f:Value)(r:List V->Hp->VK->Prop):Prop :=
 ∀(pins:List (Addr×Obj)) (s:Shared) (σ:St) (H:Hp) (xs:List V) (us:List Value) (Q:VK),Inv X pins σ H s->Vals xs us->r xs H Q ->
  wpAny (model X.prog X.w) X.A (call f us) (EP X pins σ Q) X.xe s
def tOp (r:R2)(ta tb:TE):TE:=fun σ H Q=>ta σ H fun x H1=>tb σ H1 fun y H2=>r x y H2 Q
def tUn (r:V->Hp->VK->Prop)(ta:TE):TE:=fun σ H Q=>ta σ H fun x H1=>r x H1 Q
def rI (C:Int->Int->Prop)(g:Int->Int->V):R2:=fun x y H Q=>∃i j,x=.int i/\y=.int j/\C i j/\Q (g i j) H
def rI0 (g:Int->Int->V):R2:=fun x y H Q=>∃i j,x=.int i/\y=.int j/\Q (g i j) H
def rU (g:Int->V):V->Hp->VK->Prop:=fun x H Q=>∃i,x=.int i/\Q (g i) H
section
variable {X:Cx} {a b c:Expr} {ta tb tc:TE} {pos:Pos}
theorem binT (ha:PE X a ta)(hb:PE X b tb){pins:List (Addr×Obj)}{s:Shared}{σ:St}{H:Hp}{R:V->V->Hp->Prop}(I:Inv X pins σ H s)(h:ta σ H fun x H1=>tb σ H1 fun y H2=>R x y H2){Q:Value->Shared->Prop}{f:Value->Value->Sem Value}(hf:∀v u s2 x y H2,Inv X pins σ H2 s2->RelV x v->RelV y u->R x y H2->wpAny (model X.prog X.w) X.A (f v u) Q X.xe s2) :
  wpAny (model X.prog X.w) X.A (eval a X.env) (fun v s₁=>wpAny (model X.prog X.w) X.A (eval b X.env) (fun u s₂=>wpAny (model X.prog X.w) X.A (f v u) Q X.xe s₂) X.xe s₁) X.xe s:=by
 refine thn (ha pins s σ H _ I h) fun v s1 ⟨x,H1,I1,r1,q1⟩=>?_
 refine thn (hb pins s1 σ H1 _ I1 q1) fun u s2 ⟨y,H2,I2,r2,q2⟩=>?_
 exact hf v u s2 x y H2 I2 r1 r2 q2
theorem pe_op {op:Operator}{r:R2}(ho:OpR X (binaryOp op) r)(ha:PE X a ta)(hb:PE X b tb):PE X (.BinOp a op b pos) (tOp r ta tb):=by
 intro pins s σ H Q I h
 exact wpAny_BinOp (binT ha hb I h fun v u s2 x y H2 I2 rx ry q=>ho pins s2 σ H2 x y v u Q I2 rx ry q)
theorem pe_un {op:UnaryOp}{r:V->Hp->VK->Prop}(ho:UnR X (unaryOp op) r)(ha:PE X a ta):PE X (.UnaryOp op a pos) (tUn r ta):=by
 intro pins s σ H Q I h
 exact UnaryOp_ (thn (ha pins s σ H _ I h) fun v s1 ⟨x,H1,I1,r1,q1⟩=>ho pins s1 σ H1 x v Q I1 r1 q1)
theorem opI {f:Value->Value->Sem Value}{C:Int->Int->Prop}{g:Int->Int->Int}(rule:∀(i j:Int) (t u:Tok) (s:Shared) (Q:Value->Shared->Prop) (E:Value->Shared->Prop),C i j->Q (.int (g i j) s.toks) { s with toks:=s.toks+1 }->wpAny (model X.prog X.w) X.A (f (.int i t) (.int j u)) Q E s) :
  OpR X f (rI C fun i j=>.int (g i j)):=by
 intro pins s σ H x y v u Q I rx ry h
 obtain⟨i,j,rfl,rfl,hc,q⟩:=h
 obtain⟨t,rfl⟩:=rx
 obtain⟨t',rfl⟩:=ry
 exact rule i j t t' s _ _ hc ⟨.int (g i j),H,I.tok _,⟨_,rfl⟩,q⟩
theorem opI0 {f:Value->Value->Sem Value}{g:Int->Int->Int}(rule:∀(i j:Int) (t u:Tok) (s:Shared) (Q:Value->Shared->Prop) (E:Value->Shared->Prop),Q (.int (g i j) s.toks) { s with toks:=s.toks+1 }->wpAny (model X.prog X.w) X.A (f (.int i t) (.int j u)) Q E s) :
  OpR X f (rI0 fun i j=>.int (g i j)):=by
 intro pins s σ H x y v u Q I rx ry h
 obtain⟨i,j,rfl,rfl,q⟩:=h
 obtain⟨t,rfl⟩:=rx
 obtain⟨t',rfl⟩:=ry
 exact rule i j t t' s _ _ ⟨.int (g i j),H,I.tok _,⟨_,rfl⟩,q⟩
theorem opB0 {f:Value->Value->Sem Value}{g:Int->Int->Bool}(rule:∀(i j:Int) (t u:Tok) (s:Shared) (Q:Value->Shared->Prop) (E:Value->Shared->Prop),Q (.bool (g i j)) s->wpAny (model X.prog X.w) X.A (f (.int i t) (.int j u)) Q E s) :
  OpR X f (rI0 fun i j=>.bl (g i j)):=by
 intro pins s σ H x y v u Q I rx ry h
 obtain⟨i,j,rfl,rfl,q⟩:=h
 obtain⟨t,rfl⟩:=rx
 obtain⟨t',rfl⟩:=ry
 exact rule i j t t' s _ _ ⟨.bl (g i j),H,I,rfl,q⟩
def CPow (i j:Int):Prop:=0<=j/\j<=1000000/\i.natAbs<2 ^ 64
def CMul (i j:Int):Prop:=(-(2 ^ 64)<i/\i<2 ^ 64)\/(-(2 ^ 64)<j/\j<2 ^ 64)
theorem CMul.ok {i j:Int}(h:CMul i j):IntMulOk i j:=by
 rcases h with⟨h1,h2⟩|⟨h1,h2⟩
 ·exact .of_left (intBits_le_64 h1 h2)
 ·exact .of_right (intBits_le_64 h1 h2)
theorem op_add:OpR X (binaryOp .Add) (rI0 fun i j=>.int (i+j)):=opI0 fun _ _ _ _ _ _ _ q=>add_int q
theorem op_sub:OpR X (binaryOp .Sub) (rI0 fun i j=>.int (i - j)):=opI0 fun _ _ _ _ _ _ _ q=>sub_int q
theorem op_modN:OpR X (binaryOp .Mod) (rI (fun _ j=>j≠0) fun i j=>.int (i.fmod j)):=opI fun _ _ _ _ _ _ _ hc q=>mod_int' hc q
theorem op_pow:OpR X (binaryOp .Pow) (rI CPow fun i j=>.int (i ^ j.toNat)):=opI fun _ _ _ _ _ _ _ hc q=>pow_int_small hc.1 hc.2.1 hc.2.2 q
theorem unI {f:Value->Sem Value}{g:Int->Int}(rule:∀(i:Int) (t:Tok) (s:Shared) (Q:Value->Shared->Prop) (E:Value->Shared->Prop),Q (.int (g i) s.toks) { s with toks:=s.toks+1 }->wpAny (model X.prog X.w) X.A (f (.int i t)) Q E s) :
  UnR X f (rU fun i=>.int (g i)):=by
 intro pins s σ H x v Q I rx h
 obtain⟨i,rfl,q⟩:=h
 obtain⟨t,rfl⟩:=rx
 exact rule i t s _ _ ⟨.int (g i),H,I.tok _,⟨_,rfl⟩,q⟩
theorem un_neg:UnR X (unaryOp .USub) (rU fun i=>.int (-i)):=unI fun _ _ _ _ _ q=>neg_int q
end
section
variable {X:Cx} {a b c:Expr} {ta tb tc:TE} {pos:Pos}
theorem fin_bl {pins:List (Addr×Obj)}{σ:St}{H:Hp}{s:Shared}{Q:VK}{k k':Bool}(I:Inv X pins σ H s)(q:Q (.bl k) H)(e:k=k'):EP X pins σ Q (.bool k') s:=by
 subst e
 exact⟨.bl k,H,I,rfl,q⟩
theorem op_lt:OpR X (compareOp .Lt) (rI0 fun i j=>.bl (decide (i<j))):=opB0 fun _ _ _ _ _ _ _ q=>lt_int q
theorem op_le:OpR X (compareOp .LtE) (rI0 fun i j=>.bl (decide (i<=j))):=opB0 fun _ _ _ _ _ _ _ q=>le_int q
theorem op_gt:OpR X (compareOp .Gt) (rI0 fun i j=>.bl (decide (j<i))):=opB0 fun _ _ _ _ _ _ _ q=>gt_int q
theorem op_ge:OpR X (compareOp .GtE) (rI0 fun i j=>.bl (decide (j<=i))):=opB0 fun _ _ _ _ _ _ _ q=>ge_int q
theorem op_isN:OpR X (compareOp .Is) (fun x y H Q=>y=.non/\Q (.bl (decide (x=.non))) H):=by
 intro pins s σ H x y v u Q I rx ry h
 obtain⟨rfl,q⟩:=h
 cases ry
 refine is_none_gen (fin_bl I q ?_)
 cases x<;>first
  |(cases rx;rfl)
  |(obtain⟨t,rfl⟩:=rx;rfl)
theorem OpR.or {f:Value->Value->Sem Value}{r r':R2}(h:OpR X f r)(h':OpR X f r'):OpR X f (fun x y H Q=>r x y H Q\/r' x y H Q):=by
 intro pins s σ H x y v u Q I rx ry q
 rcases q with q|q
 ·exact h pins s σ H x y v u Q I rx ry q
 ·exact h' pins s σ H x y v u Q I rx ry q
theorem Zt (b:Expr){op:CmpOp}(h:op≠.In:=by decide)(h2:op≠.NotIn:=by decide):behindInMarks op b=false:=by
 have e1:(op==CmpOp.In)=false:=by cases op<;>first|rfl|exact absurd rfl h
 have e2:(op==CmpOp.NotIn)=false:=by cases op<;>first|rfl|exact absurd rfl h2
 cases b<;>simp[behindInMarks,e1,e2]
theorem pe_cmpR {op:CmpOp}{r:R2}(ho:OpR X (compareOp op) r)(ha:PE X a ta)(hb:PE X b tb)(hm:behindInMarks op b=false):PE X (.Compare a [op] [b] pos) (tOp r ta tb):=by
 intro pins s σ H Q I h
 exact wpAny_Compare1 (binT ha hb I h fun v u s2 x y H2 I2 rx ry q=>ho pins s2 σ H2 x y v u Q I2 rx ry q) hm
def tTest (t:TE):TT:=fun σ H Q=>t σ H fun x H'=>∃k,x=.bl k/\Q k H'
theorem pt_cmpR {op:CmpOp}{r:R2}(ho:OpR X (compareOp op) r)(ha:PE X a ta)(hb:PE X b tb)(hm:behindInMarks op b=false):PT X (.Compare a [op] [b] pos) (tTest (tOp r ta tb)):=by
 intro pins s σ H Q I h
 refine wpAny_isTrue_Compare1 (thn (ha pins s σ H _ I h) fun v s1 ⟨x,H1,I1,r1,q1⟩=>thn (hb pins s1 σ H1 _ I1 q1) fun u s2 ⟨y,H2,I2,r2,q2⟩ =>
  thn (ho pins s2 σ H2 x y v u _ I2 r1 r2 q2) fun c s3 ⟨z,H3,I3,r3,k,e,q3⟩=>?_) hm
 subst e
 cases r3
 exact wpAny_truthy_bool ⟨H3,I3,q3⟩
def tChain (r r':R2)(ta tb tc:TE):TE:=fun σ H Q=>ta σ H fun x H1=>tb σ H1 fun y H2=>r x y H2 fun z H3=>∃k,z=.bl k /\
 (if k=true then tc σ H3 fun w' H4=>r' y w' H4 Q else Q (.bl false) H3)
theorem pt_chain {op op':CmpOp}{r r':R2}(ho:OpR X (compareOp op) r)(ho':OpR X (compareOp op') r')(ha:PE X a ta)(hb:PE X b tb)(hc:PE X c tc)(hm:lastMarks [op,op'] [b,c]=false:=by with_unfolding_all rfl):PT X (.Compare a [op,op'] [b,c] pos) (tTest (tChain r r' ta tb tc)):=by
 intro pins s σ H Q I h
 refine isTrue_chain (thn (ha pins s σ H _ I h) fun v s1 ⟨x,H1,I1,r1,q1⟩=>test_link (thn (hb pins s1 σ H1 _ I1 q1) fun u s2 ⟨y,H2,I2,r2,q2⟩ =>
  thn (ho pins s2 σ H2 x y v u _ I2 r1 r2 q2) fun d s3 ⟨z,H3,I3,r3,k,e,q3⟩=>?_)) hm
 subst e
 cases r3
 refine wpAny_truthy_bool ?_
 cases k with
 |false =>
  obtain⟨k',e',q'⟩:=q3
  cases e'
  exact ite_ff ⟨H3,I3,q'⟩
 |true =>
  refine ite_tt (test_last (thn (hc pins s3 σ H3 _ I3 q3) fun w' s4 ⟨z',H4,I4,r4,q4⟩=>thn (ho' pins s4 σ H4 y z' u w' _ I4 r2 r4 q4) fun d' s5 ⟨z2,H5,I5,r5,k2,e2,q5⟩=>?_))
  subst e2
  cases r5
  exact wpAny_truthy_bool ⟨H5,I5,q5⟩
theorem line63:(sizeLine:Nat)<2 ^ 63:=by rw[sizeLine_eq];decide
theorem op_add_str:OpR X (binaryOp .Add) (fun x y H Q=>∃i j,x=.str i/\y=.str j/\i.length+j.length<=sizeLine/\Q (.str (i++j)) H):=by
 intro pins s σ H x y v u Q I rx ry h
 obtain⟨i,j,rfl,rfl,hz,q⟩:=h
 obtain⟨t,rfl⟩:=rx
 obtain⟨t',rfl⟩:=ry
 exact add_str (fun t' tk=>⟨.str (i++j),H,I.tok _,⟨_,rfl⟩,q⟩) hz
theorem vals1 {x:V}{us:List Value}(r:Vals [x] us):∃u,us=[u]/\RelV x u:=by
 cases r with
 |cons r1 r2=>cases r2;exact⟨_,rfl,r1⟩
theorem vals2 {x y:V}{us:List Value}(r:Vals [x,y] us):∃u w',us=[u,w']/\RelV x u/\RelV y w':=by
 cases r with
 |cons r1 r2 =>
  cases r2 with
  |cons r3 r4=>cases r4;exact⟨_,_,rfl,r1,r3⟩
theorem call_abs:CallR X (.builtin "abs") (fun xs H Q=>∃i,xs=[.int i]/\Q (.int (if i<0 then -i else i)) H):=by
 intro pins s σ H xs us Q I r h
 obtain⟨i,rfl,q⟩:=h
 obtain⟨u,rfl,t,rfl⟩:=vals1 r
 exact call_abs_int fun u tk=>⟨.int (if i<0 then -i else i),H,I.tok _,⟨_,rfl⟩,q⟩
theorem call_int1:CallR X (.type "int") (fun xs H Q=>(∃i,xs=[.int i]/\Q (.int i) H)\/∃k,xs=[.bl k]/\Q (.int (if k then 1 else 0)) H):=by
 intro pins s σ H xs us Q I r h
 rcases h with⟨i,rfl,q⟩|⟨k,rfl,q⟩
 ·obtain⟨u,rfl,t,rfl⟩:=vals1 r
  exact call_int_int ⟨.int i,H,I,⟨_,rfl⟩,q⟩
 ·obtain⟨u,rfl,r1⟩:=vals1 r
  cases r1
  exact call_int_bool ⟨.int (if k then 1 else 0),H,I.tok _,⟨_,rfl⟩,q⟩
end
end L2
namespace L2
open PySem PySem.Spec PyProof.Rows
structure ObjM (h:Heap) (x dx C:Addr) (mA:Str->Option Value):Prop where
 obj:h.get? x=some (PySem.W.instObj C dx)
 ns:h.Ns1 dx mA
 ne:dx≠x
theorem lookIn_ns {h:Heap}{dx:Addr}{mA:Str->Option Value}(n:h.Ns1 dx mA):∃od,h.get? dx=some od/\∀name,PySem.W.lookIn name od=some (mA name):=by
 obtain⟨o,es,ep,ho,hd,hk,_,hm⟩:=n
 refine⟨o,ho,fun name=>?_⟩
 have e:=hm name
 unfold nsFind findBy at e
 rw[<-Array.find?_toList] at e
 unfold PySem.W.lookIn
 rw[hd]
 dsimp only
 split
 ·rename_i y q
  rw[q] at e
  exact congrArg some e
 ·rename_i q
  rw[q] at e
  have a:es.toList.any (·.refKey)=false:=by
   rw[List.any_eq_false]
   intro y hy
   obtain⟨z,t,hkey⟩:=hk y (Array.mem_toList_iff.mp hy)
   simp[DictEntry.refKey,hkey]
  have a':¬es.toList.any (·.refKey)=true:=by rw[a];exact Bool.false_ne_true
  rw[if_neg a']
  exact congrArg some e
section
variable {prog:Program} {w:World} {A:Around} {E:Value->Shared->Prop} {s:Shared} {K:PySem.W.Frag} {x dx C f:Addr} {mA:Str->Option Value} {name:Str} {v:Value}
end
theorem RelO.some_of {v:V}{o:Option Value}(r:RelO (some v) o):∃u,o=some u/\RelV v u:=by
 cases o with
 |none=>exact(show False from r).elim
 |some u=>exact⟨u,rfl,r⟩
theorem RelO.none_of {o:Option Value}(r:RelO none o):o=none:=by
 cases o with
 |none=>rfl
 |some u=>exact(show False from r).elim
theorem handed_of {v:V}{u:Value}(r:RelV v u):PySem.W.handedIn u=true:=by
 cases v with
 |non=>cases (show u=Value.none from r);rfl
 |bl b=>cases (show u=Value.bool b from r);rfl
 |int i=>obtain⟨t,e⟩:=(show ∃t,u=Value.int i t from r);cases e;rfl
 |str x=>obtain⟨t,e⟩:=(show ∃t,u=Value.str x t from r);cases e;rfl
 |byt b=>obtain⟨t,e⟩:=(show ∃t,u=Value.bytes b t from r);cases e;rfl
 |flt b=>obtain⟨t,e⟩:=(show ∃t,u=Value.float b t from r);cases e;rfl
 |ref a=>cases (show u=Value.ref a from r);rfl
 |ty n=>cases (show u=Value.type n from r);rfl
section
variable {P:Program} {w:World} {H H':Hp} {h h':Heap} {a C dx:Addr} {fs fs':List (Str×V)}
end
structure Cls (K:PySem.W.Frag) (C:Addr):Prop where
 pg:PySem.W.plainGet K C Str.empty=true
 hd:PySem.W.hasDictIn K C=true
 po:PySem.W.plainOver K C=true
 sa:PySem.W.findIn K (.ref C) "__setattr__" = some (some (.builtin "object.__setattr__"))
theorem Cls.get {K:PySem.W.Frag}{C:Addr}(c:Cls K C)(f:Str):PySem.W.plainGet K C f=true:=c.pg
def NoAttr (K:PySem.W.Frag)(C:Addr)(f:Str):Prop:=PySem.W.findIn K (.ref C) f=some none
theorem NoAttr.taker {K:PySem.W.Frag}{C:Addr}{f:Str}(n:NoAttr K C f):PySem.W.takerIn K C f=some none:=by
 unfold PySem.W.takerIn
 rw[show PySem.W.findIn K (.ref C) f=some none from n]
 rfl
structure Con (K:PySem.W.Frag) (C:Addr) (f:Str) (v:V) (u:Value):Prop where
 at_:PySem.W.findIn K (.ref C) f=some (some u)
 rel:RelV v u
 get:PySem.W.specialIn K u "__get__" = some none
 cp:PySem.W.copiedNames.contains f=false
structure Meth (K:PySem.W.Frag) (C:Addr) (m:Str) (f:Addr):Prop where
 at_:PySem.W.findIn K (.ref C) m=some (some (.ref f))
 fn:PySem.W.isFn K (.ref f)=true
 kp:PySem.W.keepIn K (.ref f)=true
section
variable {X:Cx} {pins:List (Addr×Obj)} {σ:St} {H:Hp} {s:Shared} {a C dx:Addr} {fs:List (Str×V)} {f:Str} {v:V} {A:Around} {E:Value->Shared->Prop}
theorem Inv.made (I:Inv X pins σ H s):Inv X pins σ (upd (upd H s.heap.objs.size (.own (s.heap.objs.size+1))) (s.heap.objs.size+1) (.ins C s.heap.objs.size []))
  { s with heap:=(s.heap.push PySem.W.emptyDict).push (PySem.W.instObj C s.heap.objs.size) }:=by
 have e1:(s.heap.push PySem.W.emptyDict).get? s.heap.objs.size=some PySem.W.emptyDict:=Heap.get?_push_size s.heap rfl
 have e2:((s.heap.push PySem.W.emptyDict).push (PySem.W.instObj C s.heap.objs.size)).get? (s.heap.objs.size+1)=some (PySem.W.instObj C s.heap.objs.size):=by
  have:=Heap.get?_push_size (s.heap.push PySem.W.emptyDict) (o:=PySem.W.instObj C s.heap.objs.size) rfl
  rwa[Heap.size_push] at this
 have e3:(s.heap.push PySem.W.emptyDict).Ns s.heap.objs.size (fun _=>none):=⟨PySem.W.emptyDict,#[],_,e1,rfl,(fun e he=>absurd he (by simp)),fun _=>rfl⟩
 have I1:=I.laid (a:=s.heap.objs.size) (o:=.own (s.heap.objs.size+1)) (h':=s.heap.push PySem.W.emptyDict) (t':=s.toks) (fun b u q=>Heap.get?_push_of_some _ q) (Nat.le_refl _) ⟨_,e1⟩
 refine I1.laid (a:=s.heap.objs.size+1) (o:=.ins C s.heap.objs.size []) (t':=s.toks) (fun b u q=>Heap.get?_push_of_some _ q) (Nat.le_of_eq (Heap.size_push _ _)) ?_
 have ne:s.heap.objs.size≠s.heap.objs.size+1:=Nat.ne_of_lt (Nat.lt_succ_self _)
 refine⟨by rw[Zn ne,Zo],Nat.zero_le _,ne,e2,fun _=>none,(Heap.Ns1.of_empty e3).at fun o q=>Heap.get?_push_of_some _ q,fun _=>True.intro,fun y hy=>absurd rfl hy⟩
theorem attr_of {prog:Program}{w:World}{env:Env}{e:Expr}{f:Str}{pos:Pos}{s:Shared}{Q:Value->Shared->Prop}(hb:attributeBase e f env (eval e env)=eval e env)(h:wpAny (model prog w) A (eval e env) (fun o s₁=>wpAny (model prog w) A (getAttr o f true) Q E s₁) E s):wpAny (model prog w) A (eval (.Attribute e f pos) env) Q E s :=
 Attribute_any_ h (by rw[arm_eval_Attribute,hb])
end
section
variable {X:Cx} {o e value:Expr} {f:Str} {pos pos' tpos:Pos} {ta tv:TE}
end
section
variable {X:Cx} {pins:List (Addr×Obj)} {σ:St} {H:Hp} {s:Shared} {A:Around} {E:Value->Shared->Prop} {Q:Value->Shared->Prop} {c:Value} {b:Bool}
inductive TyOf (K:PySem.W.Frag) (H:Hp):V->Value->Prop where
 |non:TyOf K H .non (.type "NoneType")
 |bl (x:Bool):TyOf K H (.bl x) (.type "bool")
 |int (i:Int):TyOf K H (.int i) (.type "int")
 |str (x:Str):TyOf K H (.str x) (.type "str")
 |flt (x:UInt64):TyOf K H (.flt x) (.type "float")
 |lst {a:Addr} {xs:List V} (e:H a=some (.lst xs)):TyOf K H (.ref a) (.type "list")
 |frz {a:Addr} {o:Obj} {xs:List V} (e:H a=some (.frz o (.lst xs))):TyOf K H (.ref a) (.type "list")
 |tup {a:Addr} {xs:List V} (e:H a=some (.tup xs)):TyOf K H (.ref a) (.type "tuple")
 |dK {a:Addr} {kvs:List (Key×V)} (e:H a=some (.dK kvs)):TyOf K H (.ref a) (.type "dict")
 |dT {a:Addr} {kvs:List (List Key×V)} (e:H a=some (.dT kvs)):TyOf K H (.ref a) (.type "dict")
 |ins {a C dx:Addr} {fs:List (Str×V)} (e:H a=some (.ins C dx fs)) (cl:Cls K C) (ha:PySem.W.findIn K (.ref C) "__class__" = some (some (.builtin "object.__class__")))
   (hn:PySem.W.specialIn K (.builtin "object.__class__") "__get__" = some (some (.builtin "getset_descriptor.__get__"))) (htk:PySem.W.takesIn K (.builtin "object.__class__")=some true)
   (hm:PySem.W.mroIn K C (.type "object")=some true):TyOf K H (.ref a) (.ref C)
end
end L2
namespace L2
open PySem PySem.Spec PyProof.Rows
structure Room (k:Nat) (A:Around):Prop where
 hd:A.handled=none
 dp:A.depth+3*k+5<recursionLimit
 un:A.units+16*k+200<cLine
theorem Room.mono {j k:Nat}{A:Around}(r:Room k A)(h:j<=k):Room j A:=⟨r.hd,by have:=r.dp;omega,by have:=r.un;omega⟩
theorem Room.deeper {k:Nat}{A:Around}(r:Room (k+1) A)(env:Env):Room k (A.deeper env) :=
 ⟨r.hd,by have:=r.dp;show A.depth+1+3*k+5<_;omega,by have:=r.un;show A.units+3+16*k+200<_;omega⟩
theorem Room.in1 {k:Nat}{A:Around}(r:Room (k+1) A):Room k A.in1 :=
 ⟨r.hd,by have:=r.dp;show A.depth+3*k+5<_;omega,by have:=r.un;show A.units+1+16*k+200<_;omega⟩
theorem make_depth {A:Around}{C:Addr}{us:List Value}{kw:List (Str×Value)}:(A.under (.builtin "type.__call__" ⟨.ref C::us,kw⟩)).depth=A.depth+1:=by
 first|rfl|simp[Around.under,Code.weight,Code.isCreation,Code.isGuard,Code.isCaller,Code.frames,Code.isFrame,guardIds]
theorem make_units {A:Around}{C:Addr}{us:List Value}{kw:List (Str×Value)}:(A.under (.builtin "type.__call__" ⟨.ref C::us,kw⟩)).units=A.units+1:=by
 first|rfl|simp[Around.under,Code.cUnits,Code.frames,Code.isFrame]
theorem Room.make {k:Nat}{A:Around}(r:Room (k+1) A)(C:Addr)(us:List Value)(kw:List (Str×Value)):Room k (A.under (.builtin "type.__call__" ⟨.ref C::us,kw⟩)) :=
 ⟨r.hd,by have:=r.dp;rw[make_depth];omega,by have:=r.un;rw[make_units];omega⟩
theorem Room.depth {k:Nat}{A:Around}(r:Room k A):A.depth<recursionLimit:=by have:=r.dp;omega
theorem Room.units {k:Nat}{A:Around}(r:Room k A):A.units+64<cLine:=by have:=r.un;omega
def tNil:TA:=fun _ H Q=>Q [] H
def tCons (ta:TE)(tr:TA):TA:=fun σ H Q=>ta σ H fun x H1=>tr σ H1 fun xs H2=>Q (x::xs) H2
section
variable {X:Cx} {e:Expr} {es:List Expr} {te:TE} {t:TA} {pos:Pos}
theorem pa_nil:PA X [] tNil:=fun _ _ _ _ H Q I h=>Calls.spliced_nil ⟨[],H,I,.nil,h⟩
theorem pa_cons (ha:PE X e te)(hr:PA X es t)(hs:starEach (e::es) X.env=(false,eval e X.env)::starEach es X.env:=by rfl):PA X (e::es) (tCons te t):=by
 intro pos pins s σ H Q I h
 rw[hs]
 show wpAny _ _ (spliced ((false,eval e X.env)::backTo pos (starEach es X.env))) _ _ s
 refine Calls.spliced_cons (thn (ha pins s σ H _ I h) fun u s1 ⟨x,H1,I1,r1,q1⟩=>?_)
 exact thn (hr pos pins s1 σ H1 _ I1 q1) fun us s2 ⟨xs,H2,I2,r2,q2⟩=>⟨x::xs,H2,I2,.cons r1 r2,q2⟩
def tTup (t:TA):TE:=fun σ H Q=>t σ H fun xs H1=>xs.length<=sizeLine/\∀p,H1 p=none->Q (.ref p) (upd H1 p (.tup xs))
def tLst (t:TA):TE:=fun σ H Q=>t σ H fun xs H1=>xs.length<=sizeLine/\∀p,H1 p=none->Q (.ref p) (upd H1 p (.lst xs))
theorem pe_tup {x1}(h:PA X es t):PE X (.Tuple es x1 pos) (tTup t):=by
 intro pins s σ H Q I hq
 refine wpAny_Tuple_spliced (thn (h pos pins s σ H _ I hq) fun us s1 ⟨xs,H1,I1,r,z,q⟩=>⟨by rw[<-r.length];exact z,?_⟩)
 have hf:H1 s1.heap.objs.size=none:=I1.hok.fresh (Nat.le_refl _)
 refine⟨.ref s1.heap.objs.size,upd H1 s1.heap.objs.size (.tup xs),I1.laid (t':=s1.toks) (fun b u e=>Heap.get?_push_of_some _ e) (Nat.le_refl _) ?_,rfl,q _ hf⟩
 exact⟨z,us,r,⟨_,Heap.get?_push_size _ rfl,rfl,_,rfl⟩⟩
theorem pe_lst (h:PA X es t):PE X (.List es pos) (tLst t):=by
 intro pins s σ H Q I hq
 refine wpAny_List_spliced (thn (h pos pins s σ H _ I hq) fun us s1 ⟨xs,H1,I1,r,z,q⟩=>⟨by rw[<-r.length];exact z,?_⟩)
 have hf:H1 s1.heap.objs.size=none:=I1.hok.fresh (Nat.le_refl _)
 refine⟨.ref s1.heap.objs.size,upd H1 s1.heap.objs.size (.lst xs),I1.laid (t':=s1.toks) (fun b u e=>Heap.get?_push_of_some _ e) (Nat.le_refl _) ?_,rfl,q _ hf⟩
 exact⟨z,us,0,r,Heap.get?_push_size _ rfl⟩
end
abbrev Sp:=List V->Hp->VK->XK->Prop
abbrev CXT:=List Env->Hp->Shared->XK->Value->Shared->Prop
structure Env0 (P:Program) (w:World) (K:PySem.W.Frag) (mg:Str->Option Value) (base:Heap) (A:Around) (outer:List Env) (s:Shared) (H:Hp):Prop where
 frames:A.frames=some outer
 mod:Mod K mg base
 bs:∀b o,base.get? b=some o->s.heap.get? b=some o/\H b=none
 bsz:base.objs.size<=s.heap.objs.size
 funs:s.heap.FunFrames base outer
 frf:∀b∈frs outer,H b=none
 hok:HOk P w H s.heap
 bare:AllBare s.gens
def CE (outer:List Env)(P:Program)(w:World)(H:Hp)(s:Shared)(Q:VK)(u:Value)(s':Shared):Prop :=
 ∃v H',s'.os=s.os/\AllBare s'.gens/\Un (frs outer) [] H H' s.heap s'.heap/\HOk P w H' s'.heap/\RelV v u/\Q v H'
def CR (CX:CXT)(outer:List Env)(P:Program)(w:World)(H:Hp)(s:Shared)(Q:VK)(E:XK)(r:Result)(s':Shared):Prop :=
 match r with
 |.ok (.ret u)=>CE outer P w H s Q u s'
 |.ok _=>False
 |.error e=>CX outer H s E e s'
structure FnOk (P:Program) (w:World) (K:PySem.W.Frag) (mg:Str->Option Value) (base:Heap) (CX:CXT) (k:Nat) (f:Addr) (fd:FuncData) (ps:List Str) (sp:Sp):Prop where
 len:∀vs H Q E,sp vs H Q E->vs.length=ps.length
 run:∀(A:Around) (outer:List Env) (s:Shared) (H:Hp) (args:Args) (us:List Value) (vs:List V) (Q:VK) (E:XK),Room k A->Env0 P w K mg base A outer s H->BindsTo s fd args (ps.zip us)->Vals vs us->sp vs H Q E ->
  codeAny (model P w) A (.call (.ref f) args) (CR CX outer P w H s Q E) s
theorem FnOk.mono {P:Program}{w:World}{K:PySem.W.Frag}{mg:Str->Option Value}{base:Heap}{CX:CXT}{j k:Nat}{f:Addr}{fd:FuncData}{ps:List Str}{sp:Sp}(F:FnOk P w K mg base CX j f fd ps sp)(h:j<=k) :
  FnOk P w K mg base CX k f fd ps sp:=⟨F.len,fun A outer s H args us vs Q E hr=>F.run A outer s H args us vs Q E (hr.mono h)⟩
theorem FnOk.imp {P:Program}{w:World}{K:PySem.W.Frag}{mg:Str->Option Value}{base:Heap}{CX:CXT}{k:Nat}{f:Addr}{fd:FuncData}{ps:List Str}{sp sp':Sp}(F:FnOk P w K mg base CX k f fd ps sp)(h:∀vs H Q E,sp' vs H Q E->sp vs H Q E):FnOk P w K mg base CX k f fd ps sp' :=
 ⟨fun vs H Q E q=>F.len vs H Q E (h _ _ _ _ q),fun A outer s H args us vs Q E hr he hb hv hs=>F.run A outer s H args us vs Q E hr he hb hv (h _ _ _ _ hs)⟩
theorem Env0.make {P:Program}{w:World}{K:PySem.W.Frag}{mg:Str->Option Value}{base:Heap}{A:Around}{outer:List Env}{s:Shared}{H:Hp}(e:Env0 P w K mg base A outer s H)(C:Addr)(us:List Value)(kw:List (Str×Value)) :
  Env0 P w K mg base (A.under (.builtin "type.__call__" ⟨.ref C::us,kw⟩)) outer s H:=⟨by first|exact e.frames|(simpa[Around.under,Code.envs,Code.isFrame,pushEnvs] using e.frames),e.mod,e.bs,e.bsz,e.funs,e.frf,e.hok,e.bare⟩
theorem Env0.in1 {P:Program}{w:World}{K:PySem.W.Frag}{mg:Str->Option Value}{base:Heap}{A:Around}{outer:List Env}{s:Shared}{H:Hp}(e:Env0 P w K mg base A outer s H) :
  Env0 P w K mg base A.in1 outer s H:=⟨e.frames,e.mod,e.bs,e.bsz,e.funs,e.frf,e.hok,e.bare⟩
section
variable {X:Cx} {pins:List (Addr×Obj)} {σ:St} {H:Hp} {s s':Shared}
theorem Inv.env0 (I:Inv X pins σ H s):Env0 X.prog X.w X.K X.mg X.base X.A X.stack s H :=
 ⟨I.ok.frames,I.ok.mod,I.bs,Nat.le_trans I.ok.bsz I.sz,I.stack,I.stkFree,I.hok,I.bare⟩
theorem Inv.after {Q:VK}{u:Value}(I:Inv X pins σ H s)(h:CE X.stack X.prog X.w H s Q u s'):EP X pins σ Q u s':=by
 obtain⟨v,H',os,bare,un,hok,r,q⟩:=h
 obtain⟨hh,g,d,t,os'⟩:=s'
 obtain rfl:os'=s.os:=os
 exact⟨v,H',I.call (h':=hh) (g':=g) (d':=d) (t':=t) (ch:=[]) un hok bare (fun b z=>absurd z (by simp)),r,q⟩
end
def tCall (sp:Sp)(dvs:List V)(E:XK)(t:TA):TE:=fun σ H Q=>t σ H fun vs H1=>sp (vs++dvs) H1 Q E
def Binds (K:PySem.W.Frag)(fd:FuncData)(ps:List Str)(ds:List Value):Prop :=
 ∀(s:Shared) (us:List Value),K.In s.heap->(us++ds).length=ps.length->BindsTo s fd ⟨us,[]⟩ (ps.zip (us++ds))
theorem Binds.all {K:PySem.W.Frag}{fd:FuncData}{ps:List Str}(h:∀us:List Value,us.length=ps.length->bindArgs fd ⟨us,[]⟩=pure (ps.zip us)):Binds K fd ps []:=fun s us _ hl=>by
 rw[List.append_nil] at hl ⊢
 exact .of_eq (h us hl)
def Passes (CX:CXT)(X:Cx)(E:XK):Prop:=∀(pins:List (Addr×Obj)) (σ:St) (H:Hp) (s:Shared) (e:Value) (s':Shared),Inv X pins σ H s->CX X.stack H s E e s'->X.xe e s'
section
variable {X:Cx} {CX:CXT} {k:Nat} {f C:Addr} {fd:FuncData} {ps:List Str} {sp:Sp} {dvs:List V} {ds:List Value} {E:XK} {x m:Str} {p pos apos:Pos} {e o:Expr} {es:List Expr} {ta:TE} {t:TA}
theorem run_fn {pins:List (Addr×Obj)}{σ:St}{H:Hp}{s:Shared}{Q:VK}{us:List Value}{vs:List V}(F:FnOk X.prog X.w X.K X.mg X.base CX k f fd ps sp)(hr:Room k X.A)(hb:Binds X.K fd ps ds)(hd:Vals dvs ds)(hx:Passes CX X E)(I:Inv X pins σ H s)(r:Vals vs us)(h:sp (vs++dvs) H Q E):wpAny (model X.prog X.w) X.A (call (.ref f) us) (EP X pins σ Q) X.xe s:=by
 have r2:Vals (vs++dvs) (us++ds):=r.append hd
 have hl:(us++ds).length=ps.length:=by rw[<-r2.length];exact F.len _ _ _ _ h
 refine wpAny_call (codeAny_mono (F.run X.A X.stack s H ⟨us,[]⟩ (us++ds) (vs++dvs) Q E hr I.env0 (hb s us I.kIn hl) r2 h) fun r s' hq=>?_)
 cases r with
 |error e=>exact hx pins σ H s e s' I hq
 |ok fl =>
  cases fl with
  |ret u=>exact I.after hq
  |next=>exact False.elim hq
  |brk=>exact False.elim hq
  |cont=>exact False.elim hq
theorem pe_call (F:FnOk X.prog X.w X.K X.mg X.base CX k f fd ps sp)(hr:Room k X.A)(hg:Gl X x)(hm:X.mg x=some (.ref f))(hk:PySem.W.keepIn X.K (.ref f)=true)(hb:Binds X.K fd ps ds)(hd:Vals dvs ds)(hx:Passes CX X E)(ha:PA X (e::es) t) (hdb:(x==("__debug__" : Str))=false:=by decide) (he:starEach (e::es) X.env=(false,eval e X.env)::starEach es X.env:=by rfl) (hpl:(backTo pos (starEach es X.env)).any (·.1)=false:=by rfl) :
  PE X (.Call (.Name x p) (e::es) [] pos) (tCall sp dvs E t):=by
 intro pins s σ H Q I h
 refine wpAny_Call_Name_kw (ld_glob I hg hm ?_ hdb)
 refine PySem.W.callWith_K (h₀:=X.base) I.ok.mod.kin hk (thn (ha pos pins s σ H _ I h) fun us s1 ⟨vs,H1,I1,r,q⟩=>⟨I1.kIn,?_⟩) he hpl
 exact run_fn F hr hb hd hx I1 r q
structure Mk (K:PySem.W.Frag) (C f:Addr):Prop where
 makes:PySem.W.makesIn K C=true
 init:PySem.W.findIn K (.ref C) "__init__" = some (some (.ref f))
 fn:PySem.W.isFn K (.ref f)=true
 kp:PySem.W.keepIn K (.ref C)=true
end
section
variable {X:Cx} {CX:CXT} {k:Nat} {f C:Addr} {fd:FuncData} {ps ks:List Str} {sp:Sp} {E:XK} {x m:Str} {p pos apos kpos:Pos} {e o:Expr} {es:List Expr} {kws:List Keyword} {te ta:TE} {t tk:TA} {nm:Option Str}
structure KBinds (K:PySem.W.Frag) (fd:FuncData) (ps ks:List Str) (g:List Value->List Value->List Value) (gV:List V->List V->List V):Prop where
 to:∀(s:Shared) (us ws:List Value),K.In s.heap->(g us ws).length=ps.length->BindsTo s fd ⟨us,ks.zip ws⟩ (ps.zip (g us ws))
 rel:∀{vs:List V} {us:List Value} {zs:List V} {ws:List Value},Vals vs us->Vals zs ws->Vals (gV vs zs) (g us ws)
variable {g:List Value->List Value->List Value} {gV:List V->List V->List V}
end
structure FnScope (N P:List Str) (sc:Scope):Prop where
 kind:sc.kind=.function
 co:sc.isCoroutine=false
 gen:sc.isGenerator=false
 nd:N.Nodup
 pre:N.take P.length=P
 par:∀x∈P,sc.names.lookup x=some .local\/sc.names.lookup x=some .cell
 nofree:∀y∈sc.names,y.2≠.free
theorem bindL_out {kindOf:Str->Option NameKind}{x:Str}:∀{binds:List (Str×Value)} {m:Str->Option Value},(∀v,(x,v) ∉ binds)->bindL kindOf binds m x=m x
 |[],_,_=>rfl
 |(n,v)::r,m,h=>by
  unfold bindL
  rw[bindL_out fun w hw=>h w (List.mem_cons_of_mem _ hw)]
  split
  ·have:x≠n:=by rintro rfl;exact h v List.mem_cons_self
   simp[this]
  ·rfl
theorem bindC_out {kindOf:Str->Option NameKind}{x:Str}:∀{binds:List (Str×Value)} {m:Str->Option Value},(∀v,(x,v) ∉ binds)->bindC kindOf binds m x=m x
 |[],_,_=>rfl
 |(n,v)::r,m,h=>by
  unfold bindC
  rw[bindC_out fun w hw=>h w (List.mem_cons_of_mem _ hw)]
  split
  ·rfl
  ·have:x≠n:=by rintro rfl;exact h v List.mem_cons_self
   simp[this]
theorem bindL_get {kindOf:Str->Option NameKind}{x:Str}{v:Value}:∀{P:List Str} {vs:List Value} {i:Nat} {m:Str->Option Value},P.Nodup->P[i]?=some x->vs[i]?=some v->kindOf x=some .local ->
  bindL kindOf (P.zip vs) m x=some v
 |[],_,_,_,_,h,_,_=>by simp at h
 |_::_,[],_,_,_,_,h,_=>by simp at h
 |p::P,w::vs,0,m,nd,h1,h2,hk=>by
  simp at h1 h2;subst h1;subst h2
  show bindL kindOf ((p,w)::P.zip vs) m p=_
  unfold bindL
  rw[bindL_out fun v hv=>(List.nodup_cons.mp nd).1 (List.of_mem_zip hv).1,if_pos hk]
  simp
 |p::P,w::vs,i+1,m,nd,h1,h2,hk=>by
  show bindL kindOf ((p,w)::P.zip vs) m x=_
  unfold bindL
  exact bindL_get (i:=i) (List.nodup_cons.mp nd).2 (by simpa using h1) (by simpa using h2) hk
theorem bindC_get {kindOf:Str->Option NameKind}{x:Str}{v:Value}:∀{P:List Str} {vs:List Value} {i:Nat} {m:Str->Option Value},P.Nodup->P[i]?=some x->vs[i]?=some v->kindOf x≠some .local ->
  bindC kindOf (P.zip vs) m x=some v
 |[],_,_,_,_,h,_,_=>by simp at h
 |_::_,[],_,_,_,_,h,_=>by simp at h
 |p::P,w::vs,0,m,nd,h1,h2,hk=>by
  simp at h1 h2;subst h1;subst h2
  show bindC kindOf ((p,w)::P.zip vs) m p=_
  unfold bindC
  rw[bindC_out fun v hv=>(List.nodup_cons.mp nd).1 (List.of_mem_zip hv).1,if_neg hk]
  simp
 |p::P,w::vs,i+1,m,nd,h1,h2,hk=>by
  show bindC kindOf ((p,w)::P.zip vs) m x=_
  unfold bindC
  exact bindC_get (i:=i) (List.nodup_cons.mp nd).2 (by simpa using h1) (by simpa using h2) hk
def Yy (N:List Str)(vs:List V):St:=vs.map some++List.replicate (N.length - vs.length) none
def cxOf (CX:CXT)(P:Program)(w:World)(K:PySem.W.Frag)(mg:Str->Option Value)(base:Heap)(N:List Str)(qual:Str)(scope:Scope)(f:Addr)(cd:Value)(A:Around)(outer:List Env)(s:Shared)(H:Hp)(E:XK):Cx where
 prog:=P
 w:=w
 K:=K
 mg:=mg
 base:=base
 A:=A.deeper (envOfC qual scope s.heap.objs.size f cd)
 N:=N
 s₀:=s
 H₀:=H
 env:=envOfC qual scope s.heap.objs.size f cd
 outer:=outer
 stack:=envOfC qual scope s.heap.objs.size f cd::outer
 ex:=[]
 calm:=true
 fn:=fun _=>true
 pn:=[]
 xe:=fun e s'=>wpAny (model P w) (A.deeper (envOfC qual scope s.heap.objs.size f cd)) (leaving (envOfC qual scope s.heap.objs.size f cd) e) (fun _ s''=>CX outer H s E e s'') (fun e' s''=>CX outer H s E e' s'') s'
theorem Yz {sc:Scope}{n:Nat}{x:Str}(h:sc.names.lookup x=some .cell):∃c,(cellsFrom n sc.names []).lookup x=some c:=by
 have q:=PySem.W.cellsFrom_some sc.names n [] (.inl h)
 exact Option.isSome_iff_exists.mp q
theorem inv_start {CX:CXT}{P:Program}{w:World}{K:PySem.W.Frag}{mg:Str->Option Value}{base:Heap}{N ps:List Str}{qual:Str}{scope:Scope}{f:Addr}{cd:Value}{A:Around}{outer:List Env}{s s1:Shared}{H:Hp}{E:XK}{us:List Value}{vs:List V}(S:FnScope N ps scope)(hd:A.handled=none)(e0:Env0 P w K mg base A outer s H)(hl:vs.length=ps.length)(r:Vals vs us)(x:InCallC s s.heap.objs.size (bindL (envOfC qual scope s.heap.objs.size f cd).kindOf (ps.zip us) fun _=>none) (cellsFrom (s.heap.objs.size+1) scope.names []) (bindC (envOfC qual scope s.heap.objs.size f cd).kindOf (ps.zip us) fun _=>none) s1) :
  Inv (cxOf CX P w K mg base N qual scope f cd A outer s H E) [] (Yy N vs) H s1:=by
 have hpl:ps.length<=N.length:=by have:=congrArg List.length S.pre;rw[List.length_take] at this;omega
 obtain⟨h1,tk,rfl,hk⟩:=x.done
 have noA:∀b:Addr,b ∉ (cxOf CX P w K mg base N qual scope f cd A outer s H E).ex:=fun b z=>absurd (show b∈([]:List Addr) from z) (by simp)
 refine⟨⟨e0.mod,S.kind,rfl,rfl,Nat.le_refl _,fun y z c h1 h2=>?_,fun y hy=>?_,fun y c _ h=>?_,fun _=>hd,Around.frames_deeper e0.frames,.inr ⟨rfl,rfl⟩,fun b z=>absurd z (noA b),e0.bs,e0.bsz,fun b _ _=>noA b,fun b z=>absurd z (noA b),e0.funs,e0.frf⟩,
  rfl,e0.bare,Un.kept hk,⟨_,x.toInCall.ns,fun i y v h1 h2 h3=>?_⟩,fun y c h=>⟨_,x.cell y c h⟩,e0.hok.fresh (Nat.le_refl _),fun y c h=>?_,fun p hp=>absurd (show p∈([]:List (Addr×Obj)) from hp) (by simp),e0.hok.kept hk,?_⟩
 ·exact name_of_addr x.apart (PySem.mem_of_lookup h1) (PySem.mem_of_lookup h2)
 ·have hy:scope.names.lookup y=some .cell\/scope.names.lookup y=some .free:=hy
  rcases hy with hy|hy
  ·exact Yz hy
  ·exact absurd rfl (S.nofree _ (PySem.mem_of_lookup hy))
 ·exact Nat.le_of_lt (x.above y c (PySem.mem_of_lookup h))
 ·have hi:i<vs.length:=by
   unfold Yy at h2
   by_cases hi:i<vs.length
   ·exact hi
   ·rw[List.getElem?_append_right (by simpa using hi)] at h2
    rw[List.getElem?_replicate] at h2
    split at h2<;>cases h2
  have ha:vs[i]?=some v:=by
   unfold Yy at h2
   rw[List.getElem?_append_left (by simpa using hi),List.getElem?_map] at h2
   cases e:vs[i]? with
   |none=>rw[e] at h2;cases h2
   |some a=>rw[e] at h2;cases h2;rfl
  obtain⟨u,hu,rv⟩:=r.get ha
  have hp:ps[i]?=some y:=by
   rw[<-S.pre,List.getElem?_take_of_lt (by omega)];exact h1
  have ndP:ps.Nodup:=by rw[<-S.pre];exact S.nd.sublist (List.take_sublist _ _)
  refine⟨u,rv,?_⟩
  rcases S.par y (List.mem_of_getElem? hp) with k|k
  ·exact .inl ⟨k,bindL_get ndP hp hu k⟩
  ·obtain⟨c,e⟩:=Yz (n:=s.heap.objs.size+1) k
   refine .inr ⟨.inl k,c,e,?_⟩
   have q:=x.cell y c e
   rw[bindC_get ndP hp hu (by show scope.names.lookup y≠_;rw[k];decide)] at q
   exact q
 ·exact e0.hok.fresh (Nat.le_of_lt (x.above y c (PySem.mem_of_lookup h)))
 ·unfold Yy
  show _=N.length
  rw[List.length_append,List.length_map,List.length_replicate]
  omega
theorem fn_of {CX:CXT}{P:Program}{w:World}{K:PySem.W.Frag}{mg:Str->Option Value}{base:Heap}{k:Nat}{f:Addr}{name qual:Str}{params:Arguments}{body:List Stmt}{scope:Scope}{dV kV doc pm cdv ct oc:Value}{an od:Option Addr}{osl:Array (Option Value)}{N ps:List Str}{sp:Sp}(lk:K.lookup f=some ⟨oc,od,.func (PySem.W.fnOf name qual params body scope dV kV doc pm an cdv ct),osl⟩)(hcd:PySem.W.codeIn K cdv qual=true)(S:FnScope N ps scope)(len:∀vs H Q E,sp vs H Q E->vs.length=ps.length)(hbody:∀(A:Around) (outer:List Env) (s:Shared) (H:Hp) (vs:List V) (Q:VK) (E:XK),Room k (A.deeper (envOfC qual scope s.heap.objs.size f cdv))->sp vs H Q E ->
   ∃t,PSs (cxOf CX P w K mg base N qual scope f cdv A outer s H E) body t/\t { nx:=fun _ H'=>Q .non H',rt:=Q } (Yy N vs) H) :
  FnOk P w K mg base CX (k+1) f (PySem.W.fnOf name qual params body scope dV kV doc pm an cdv ct) ps sp:=by
 refine⟨len,fun A outer s H args us vs Q E hr e0 hb r hsp=>?_⟩
 have hl:=len _ _ _ _ hsp
 have KX:K.In s.heap:=e0.mod.kin.keeps fun b o e=>(e0.bs b o e).1
 have lim:s.heap.NoLimit:=e0.mod.nolimit.keeps fun b o e=>(e0.bs b o e).1
 have hkind:∀y∈ps.zip us,scope.names.lookup y.1=some .local\/(scope.names.lookup y.1=some .cell/\((cellsFrom (s.heap.objs.size+1) scope.names []).lookup y.1).isSome=true):=fun⟨n,v⟩ hy=>by
  rcases S.par n (List.of_mem_zip hy).1 with q|q
  ·exact .inl q
  ·exact .inr ⟨q,PySem.W.cellsFrom_some _ _ _ (.inl q)⟩
 refine codeAny_call_function hr.depth (KX _ _ lk) rfl S.co S.gen rfl (PySem.W.codeRec_of KX hcd) (hb _ _ _ _ ?_)
 refine wpAny_newFunctionEnv_cells S.kind hkind fun env he s1 x=>?_
 subst he
 refine⟨lim.keeps x.toInCall.keep,codeAny_func ?_⟩
 obtain⟨t,ht,hq⟩:=hbody A outer s H vs Q E (hr.deeper _) hsp
 have I:Inv (cxOf CX P w K mg base N qual scope f cdv A outer s H E) [] (Yy N vs) H s1:=inv_start S hr.hd e0 hl r x
 refine wpAny_mono (ht [] s1 (Yy N vs) H _ I hq) (fun fl s' hs=>?_) fun e s' hs=>hs
 have fin:∀{σ':St} {H':Hp} {v:V} {u:Value},Inv (cxOf CX P w K mg base N qual scope f cdv A outer s H E) [] σ' H' s'->RelV v u->Q v H'->CE outer P w H s Q u s' :=
  fun {σ' H' v u} J rv q=>⟨v,H',J.os,J.bare,J.base,J.hok,rv,q⟩
 cases fl with
 |ret u =>
  obtain⟨v,σ',H',J,rv,q⟩:=hs
  exact fin J rv q
 |next =>
  obtain⟨σ',H',J,q⟩:=hs
  exact fin (v:=V.non) (u:=Value.none) J rfl q
 |brk =>
  obtain⟨_,_,_,q⟩:=hs
  exact False.elim q
 |cont =>
  obtain⟨_,_,_,q⟩:=hs
  exact False.elim q
end L2
namespace L2
open PySem PySem.Spec PyProof.Rows
section
variable {X:Cx} {x:Str} {p pos:Pos} {e:Expr} {es:List Expr} {t:TA} {id T:String} {r:List V->Hp->VK->Prop}
def tCB (r:List V->Hp->VK->Prop)(t:TA):TE:=fun σ H Q=>t σ H fun vs H1=>r vs H1 Q
theorem pe_callB (hc:CallR X (.builtin id) r)(hg:Gl X x)(hm:X.mg x=none)(hv:bootBuiltins x=some (.builtin id))(ha:PA X (e::es) t) (hn:x ≠ "__name__" := by decide) (hdb:(x==("__debug__" : Str))=false:=by decide)
  (he:starEach (e::es) X.env=(false,eval e X.env)::starEach es X.env:=by rfl) (hpl:(backTo pos (starEach es X.env)).any (·.1)=false:=by rfl):PE X (.Call (.Name x p) (e::es) [] pos) (tCB r t):=by
 intro pins s σ H Q I h
 refine wpAny_Call_Name_kw (ld_blt I hg hm hv ?_ hn hdb)
 exact PyProof.Rows.callWith_builtin1 (thn (ha pos pins s σ H _ I h) fun us s1 ⟨vs,H1,I1,r1,q1⟩=>hc pins s1 σ H1 vs us Q I1 r1 q1) he hpl
theorem pe_callTy (hc:CallR X (.type T) r)(hg:Gl X x)(hm:X.mg x=none)(hv:bootBuiltins x=some (.type T))(ha:PA X (e::es) t) (hn:x ≠ "__name__" := by decide) (hdb:(x==("__debug__" : Str))=false:=by decide)
  (he:starEach (e::es) X.env=(false,eval e X.env)::starEach es X.env:=by rfl) (hpl:(backTo pos (starEach es X.env)).any (·.1)=false:=by rfl):PE X (.Call (.Name x p) (e::es) [] pos) (tCB r t):=by
 intro pins s σ H Q I h
 refine wpAny_Call_Name_kw (ld_blt I hg hm hv ?_ hn hdb)
 exact PyProof.Rows.callWith_type1 (thn (ha pos pins s σ H _ I h) fun us s1 ⟨vs,H1,I1,r1,q1⟩=>hc pins s1 σ H1 vs us Q I1 r1 q1) he hpl
end
end L2
namespace HT
open PySem PyProof.Rows
section
open PySem.SeqAt
open PySem.AutoSeq1 (wpAny_loadPart')
open PySem.MeetsSeq PySem.MeetsSeq2 PySem.MeetsSeq3
end
section
variable {prog:Program} {w:World} {A:Around} {E:Value->Shared->Prop} {s:Shared}
theorem cat_tup {t b:Addr}{vs ws:List Value}{Q:Value->Shared->Prop}(ht:IsTup s.heap t vs.toArray)(hb:IsTup s.heap b ws.toArray)(hv:vs≠[])(h1:ws=[]->Q (.ref t) s) (h2:ws≠[]->Q (.ref s.heap.objs.size) { s with heap:=s.heap.push { cls:=.type "tuple", data:=.seq (vs++ws).toArray } })
  (hsz:vs.length+ws.length<=sizeLine):wpAny (model prog w) A (binaryOp .Add (.ref t) (.ref b)) Q E s:=by
 obtain⟨⟨cls,dd,data,sl⟩,ho,hc,n,hd⟩:=id ht
 obtain⟨⟨cls2,dd2,data2,sl2⟩,ho2,hc2,n2,hd2⟩:=id hb
 simp only at hc hd hc2 hd2
 subst hc hd hc2 hd2
 have e:vs.toArray++ws.toArray=(vs++ws).toArray:=by simp
 by_cases hw:ws=[]
 ·exact concat_meets ⟨_,ho,rfl⟩ ⟨_,ho2,rfl⟩ noFill_tuple_add seq_tuple_add PySem.F.slot_tuple_add PySem.F.entry_tuple_add (PySem.F.args_tuple_add_2 _ _)
   (tuple_addW1 t b vs.toArray ws.toArray n n2 dd dd2 sl sl2 (by simpa using hv) (by simp[hw])) ⟨ho,ho2,h1 hw⟩
 ·refine concat_meets ⟨_,ho,rfl⟩ ⟨_,ho2,rfl⟩ noFill_tuple_add seq_tuple_add PySem.F.slot_tuple_add PySem.F.entry_tuple_add (PySem.F.args_tuple_add_2 _ _)
   (tuple_addW2 t b vs.toArray ws.toArray n n2 dd dd2 sl sl2 (by simpa using hv) (by simpa using hw) (by rw[List.size_toArray,List.size_toArray];exact hsz)) ⟨ho,ho2,?_⟩
  rw[e]
  exact h2 hw
def sIx (n d:Nat):Option Int->Nat
 |none=>d
 |some v=>if v<0 then(v+(n:Int)).toNat else min v.toNat n
theorem sIx_le (n d:Nat)(hd:d<=n)(o:Option Int):sIx n d o<=n:=by
 cases o with
 |none=>exact hd
 |some v =>
  show(if v<0 then(v+(n:Int)).toNat else min v.toNat n)<=n
  by_cases hv:v<0
  ·rw[if_pos hv];omega
  ·rw[if_neg hv];exact Nat.min_le_right _ _
theorem clip_eq (v:Int)(n d:Nat):(if v<0 then max (v+(n:Int)) 0 else min v (n:Int))=((sIx n d (some v):Nat):Int):=by
 show(if v<0 then max (v+(n:Int)) 0 else min v (n:Int))=(((if v<0 then(v+(n:Int)).toNat else min v.toNat n):Nat):Int)
 by_cases hv:v<0
 ·simp only[if_pos hv];omega
 ·simp only[if_neg hv];omega
theorem adjust_gen (lo hi:Option Int)(n:Nat):Builtin.Slice.sliceAdjust lo hi 1 (n:Int)=(((sIx n 0 lo:Nat):Int),((sIx n n hi:Nat):Int)):=by
 have h1:¬((1:Int)<0):=by omega
 unfold Builtin.Slice.sliceAdjust
 simp only[h1,if_false]
 refine Prod.ext ?_ ?_
 ·cases lo with
  |none=>rfl
  |some v=>exact clip_eq v n 0
 ·cases hi with
  |none=>rfl
  |some v=>exact clip_eq v n n
theorem places_gen (i j:Nat):Builtin.Slice.slicePlaces (i:Int) (j:Int) 1=j - i:=by
 unfold Builtin.Slice.slicePlaces
 have h1:(1:Int) > 0:=by omega
 simp only[h1,if_true,Int.ediv_one]
 split<;>omega
theorem slicePart_ {v:Value}{o:Option Int}{Q:Option Int->Shared->Prop}(p:IsPart v o)(h:Q o s):wpAny (model prog w) A (Builtin.Slice.slicePartIndex v) Q E s:=by
 cases p with
 |none=>exact slicePart_none h
 |int i t=>exact slicePart_int h
theorem sliceApplied_gen {sl:Addr}{vl vu:Value}{lo hi:Option Int}{n:Nat}{Q:Int×Int×Nat->Shared->Prop}(hs:s.heap.IsSliceOf sl vl vu .none)(pl:IsPart vl lo)(pu:IsPart vu hi)(h:Q (((sIx n 0 lo:Nat):Int),1,sIx n n hi - sIx n 0 lo) s):wpAny (model prog w) A (Builtin.Slice.sliceApplied (.ref sl) (pure (n:Int))) Q E s:=by
 obtain⟨os,hos,hcs,hds⟩:=id hs
 unfold Builtin.Slice.sliceApplied Builtin.Slice.sliceFields
 refine wpAny_bind (wpAny_bind (wpAny_field hos hds (x:=vl) rfl (wpAny_bind (wpAny_field hos hds (x:=vu) rfl (wpAny_bind (wpAny_field hos hds (x:=.none) rfl (wpAny_pure ?_)))))))
 refine wpAny_bind (slicePart_none ?_)
 show wpAny _ _ (if((1:Int)==0)=true then _ else _) _ _ s
 rw[if_neg (by decide)]
 refine wpAny_bind (slicePart_ pl (wpAny_bind (slicePart_ pu (wpAny_bind (wpAny_pure ?_)))))
 show wpAny _ _ (match Builtin.Slice.sliceAdjust lo hi 1 (n:Int) with|(lo,hi)=>pure (lo,(1:Int),Builtin.Slice.slicePlaces lo hi 1)) _ _ s
 rw[adjust_gen lo hi n]
 show wpAny _ _ (pure (((sIx n 0 lo:Nat):Int),(1:Int),Builtin.Slice.slicePlaces ((sIx n 0 lo:Nat):Int) ((sIx n n hi:Nat):Int) 1)) _ _ s
 rw[places_gen]
 exact wpAny_pure h
theorem pick_gen (xs:Array Value)(i k:Nat):((List.range k).filterMap fun(m:Nat)=>xs[((i:Int)+(m:Int)*1).toNat]?).toArray=((xs.toList.drop i).take k).toArray:=by
 have e:(fun(m:Nat)=>xs[((i:Int)+(m:Int)*1).toNat]?)=fun m=>xs[i+m]?:=by
  funext m
  have:((i:Int)+(m:Int)*1).toNat=i+m:=by omega
  rw[this]
 rw[e]
 have:=pick_run xs i k
 rw[List.filterMap_map] at this
 have e2:((fun x=>xs[x]?)∘fun x=>i+x)=fun m=>xs[i+m]?:=rfl
 rw[e2] at this
 rw[this]
theorem getItem_tuple_cut {t sl:Addr}{items:Array Value}{vl vu:Value}{lo hi:Option Int}{Q:Value->Shared->Prop}(ht:IsTup s.heap t items)(hs:s.heap.IsSliceOf sl vl vu .none)(pl:IsPart vl lo)(pu:IsPart vu hi)(hw:¬(sIx items.size 0 lo=0/\sIx items.size items.size hi=items.size))
  (h:Q (.ref s.heap.objs.size) { s with heap:=s.heap.push { cls:=.type "tuple", data:=.seq ((items.toList.drop (sIx items.size 0 lo)).take (sIx items.size items.size hi - sIx items.size 0 lo)).toArray } })
  (hsz:items.size<=sizeLine):wpAny (model prog w) A (getItem (.ref t) (.ref sl)) Q E s:=by
 have htake:sizeOk (.seq ((items.toList.drop (sIx items.size 0 lo)).take (sIx items.size items.size hi - sIx items.size 0 lo)).toArray):=by
  show((items.toList.drop (sIx items.size 0 lo)).take (sIx items.size items.size hi - sIx items.size 0 lo)).toArray.size<=sizeLine
  rw[List.size_toArray,List.length_take,List.length_drop,Array.length_toList]
  omega
 have hj:sIx items.size items.size hi<=items.size:=sIx_le _ _ (Nat.le_refl _) hi
 obtain⟨os,hos,hcs,hds⟩:=id hs
 have hTs:s.TypeIs (.ref sl) "slice" := ⟨os,hos,hcs⟩
 unfold getItem
 try with_reducible refine wpAny_holding ?_
 first|refine wpAny_bind (wpAny_pure ?_)|skip
 refine wpAny_bind (wpAny_sequenceKey ht.typeIs (by decide) ?_)
 refine wpAny_bind (wpAny_callSpecial?_slot (name:=Str.ofString "__getitem__") ht.typeIs PyProof.Rows.slot_tuple_getitem
  (wpAny_call_entry PyProof.Rows.slot_tuple_getitem ht.typeIs entry_tuple_getitem ?_ (args_tuple_getitem _ _)))
 show wpAny _ _ (Builtin.Tuple.tupleItemsOf (.ref t)>>=_) _ _ s
 refine wpAny_bind (tupleItemsOf_ ht ?_)
 refine wpAny_bind (wpAny_typeOf hTs ?_)
 rw[if_pos (by decide)]
 refine wpAny_bind (sliceApplied_gen hs pl pu ?_)
 have hno:¬((((sIx items.size 0 lo:Nat):Int)==0&&(1:Int)==1&&(sIx items.size items.size hi - sIx items.size 0 lo)==items.size)=true):=by
  intro q
  rw[Bool.and_eq_true,Bool.and_eq_true] at q
  have q1:((sIx items.size 0 lo:Nat):Int)=0:=eq_of_beq q.1.1
  have q2:sIx items.size items.size hi - sIx items.size 0 lo=items.size:=eq_of_beq q.2
  exact hw ⟨by omega,by omega⟩
 show wpAny _ _ (if(((sIx items.size 0 lo:Nat):Int)==0&&(1:Int)==1&&(sIx items.size items.size hi - sIx items.size 0 lo)==items.size)=true then _ else _) _ _ s
 rw[if_neg hno,pick_gen]
 first
  |exact wpAny_bind (m:=Builtin.Tuple.tupleExact _) (wpAny_newObj_type (wpAny_pure ⟨_,rfl,wpAny_pure h⟩) htake)
  |exact wpAny_bind (m:=Builtin.Tuple.tupleExact _) (wpAny_newObj_type (wpAny_bind (wpAny_pure (wpAny_pure ⟨_,rfl,wpAny_pure h⟩))) htake)
  |exact wpAny_bind (wpAny_bind (m:=Builtin.Tuple.tupleExact _) (wpAny_newObj_type (wpAny_pure (wpAny_pure ⟨_,rfl,wpAny_pure h⟩)) htake))
  |exact wpAny_bind (wpAny_bind (m:=Builtin.Tuple.tupleExact _) (wpAny_newObj_type (wpAny_pure ⟨_,rfl,wpAny_pure h⟩) htake))
end
end HT
namespace L2
open PySem PySem.Spec PyProof.Rows
abbrev TO:=St->Hp->(Option Int->Hp->Prop)->Prop
def PO (X:Cx)(e:Option Expr)(t:TO):Prop :=
 ∀(pins:List (Addr×Obj)) (s:Shared) (σ:St) (H:Hp) (Q:Option Int->Hp->Prop),Inv X pins σ H s->t σ H Q ->
  wpAny (model X.prog X.w) X.A (evalPart e X.env) (fun u s'=>∃o H',Inv X pins σ H' s'/\IsPart u o/\Q o H') X.xe s
def tNoPart:TO:=fun _ H Q=>Q none H
def tPart (t:TE):TO:=fun σ H Q=>t σ H fun x H1=>∃i,x=.int i/\Q (some i) H1
section
variable {X:Cx} {e:Expr} {te:TE} {lo hi:Option Expr} {tl th:TO} {pos p2:Pos}
theorem po_none:PO X none tNoPart:=by
 intro pins s σ H Q I h
 rw[evalPart_none]
 exact wpAny_pure ⟨none,H,I,.none,h⟩
theorem po_some (h:PE X e te):PO X (some e) (tPart te):=by
 intro pins s σ H Q I hw
 rw[evalPart_some]
 refine thn (h pins s σ H _ I hw) fun u s1 ⟨x,H1,I1,r1,q1⟩=>?_
 obtain⟨i,rfl,q⟩:=q1
 obtain⟨t,rfl⟩:=r1
 exact⟨some i,H1,I1,.int i t,q⟩
def SlR (X:Cx)(r:V->Option Int->Option Int->Hp->VK->Prop):Prop :=
 ∀(pins:List (Addr×Obj)) (s:Shared) (σ:St) (H:Hp) (x:V) (v vl vu:Value) (lo hi:Option Int) (sl:Addr) (Q:VK),Inv X pins σ H s->RelV x v->s.heap.IsSliceOf sl vl vu .none->IsPart vl lo->IsPart vu hi->r x lo hi H Q ->
  ∃T id,typeLookup (.type T) "__getitem__" = pure (some (.builtin id))/\s.TypeIs v T/\wpAny (model X.prog X.w) X.A (getItem v (.ref sl)) (EP X pins σ Q) X.xe s
theorem SlR.or {r r':V->Option Int->Option Int->Hp->VK->Prop}(h:SlR X r)(h':SlR X r'):SlR X (fun x lo hi H Q=>r x lo hi H Q\/r' x lo hi H Q):=by
 intro pins s σ H x v vl vu lo hi sl Q I rx hs pl pu q
 rcases q with q|q
 ·exact h pins s σ H x v vl vu lo hi sl Q I rx hs pl pu q
 ·exact h' pins s σ H x v vl vu lo hi sl Q I rx hs pl pu q
def tSl (r:V->Option Int->Option Int->Hp->VK->Prop)(te:TE)(tl th:TO):TE:=fun σ H Q=>te σ H fun x H1=>tl σ H1 fun l H2=>th σ H2 fun u H3=>r x l u H3 Q
theorem pe_slice {r:V->Option Int->Option Int->Hp->VK->Prop}(hr:SlR X r)(he:PE X e te)(hl:PO X lo tl)(hu:PO X hi th):PE X (.Subscript e (.Slice lo hi none p2) pos) (tSl r te tl th):=by
 intro pins s σ H Q I h
 refine Subscript_ (thn (he pins s σ H _ I h) fun v s1 ⟨x,H1,I1,r1,q1⟩=>?_)
 refine wpAny_Slice (thn (hl pins s1 σ H1 _ I1 q1) fun vl s2 ⟨l,H2,I2,pl,q2⟩=>thn (hu pins s2 σ H2 _ I2 q2) fun vu s3 ⟨u,H3,I3,pu,q3⟩=>?_)
 rw[evalPart_none]
 refine wpAny_pure ?_
 have I4:Inv X pins σ H3 { s3 with heap:=s3.heap.push { cls:=.type "slice", data:=.fields #[vl,vu,.none] } }:=I3.kept (t':=s3.toks) fun b ob q=>Heap.get?_push_of_some _ q
 obtain⟨T,id,hT,ht,hg⟩:=hr pins { s3 with heap:=s3.heap.push { cls:=.type "slice", data:=.fields #[vl,vu,.none] } } σ H3 x v vl vu l u s3.heap.objs.size Q I4 r1 (Heap.IsSliceOf.new ..) pl pu q3
 show wpAny (model X.prog X.w) X.A (subscriptTail e (.Slice lo hi none p2) v (.ref s3.heap.objs.size)) (EP X pins σ Q) X.xe { s3 with heap:=s3.heap.push { cls:=.type "slice", data:=.fields #[vl,vu,.none] } }
 exact tail_any (ops:=[.ref s3.heap.objs.size,v]) ht hT hg (by with_unfolding_all rfl)
def cutV (xs:List V)(lo hi:Option Int):List V:=(xs.drop (HT.sIx xs.length 0 lo)).take (HT.sIx xs.length xs.length hi - HT.sIx xs.length 0 lo)
theorem cutV_length (xs:List V)(lo hi:Option Int):(cutV xs lo hi).length<=xs.length:=by
 unfold cutV
 rw[List.length_take,List.length_drop]
 omega
def rSlT (K:PySem.W.Frag):V->Option Int->Option Int->Hp->VK->Prop:=fun x lo hi H Q=>∃a xs,x=.ref a/\SqT K H a xs /\
 ¬(HT.sIx xs.length 0 lo=0/\HT.sIx xs.length xs.length hi=xs.length)/\∀p,H p=none->Q (.ref p) (upd H p (.tup (cutV xs lo hi)))
theorem sl_tup:SlR X (rSlT X.K):=by
 intro pins s σ H x v vl vu lo hi sl Q I rx hs pl pu h
 obtain⟨a,xs,rfl,hx,hw,q⟩:=h
 cases rx
 obtain⟨its,r,ht,hz⟩:=I.tuple hx
 have hlen:its.toArray.size=xs.length:=by rw[List.size_toArray];exact r.length.symm
 refine⟨"tuple", _,PyProof.Rows.slot_tuple_getitem.lookup,ht.typeIs,?_⟩
 refine HT.getItem_tuple_cut ht hs pl pu (by rw[hlen];exact hw) ?_ (by rw[hlen];exact hz)
 rw[hlen]
 refine⟨.ref s.heap.objs.size,_,I.laid (t':=s.toks) (o:=.tup (cutV xs lo hi)) (fun b ob q=>Heap.get?_push_of_some _ q) (Nat.le_refl _) ?_,rfl,q _ (I.hok.fresh (Nat.le_refl _))⟩
 exact⟨Nat.le_trans (cutV_length xs lo hi) hz,_,(r.drop (HT.sIx xs.length 0 lo)).take (HT.sIx xs.length xs.length hi - HT.sIx xs.length 0 lo),IsTup.new _ _⟩
def rCatT (K:PySem.W.Frag):R2:=fun x y H Q=>∃a b xs ys,x=.ref a/\y=.ref b/\SqT K H a xs/\SqT K H b ys/\xs≠[]/\xs.length+ys.length<=sizeLine /\
 (ys=[]->Q (.ref a) H)/\(ys≠[]->∀p,H p=none->Q (.ref p) (upd H p (.tup (xs++ys))))
theorem Vals.nil_iff {xs:List V}{us:List Value}(r:Vals xs us):us=[]↔xs=[]:=by
 cases r with
 |nil=>simp
 |cons _ _=>simp
theorem op_catT:OpR X (binaryOp .Add) (rCatT X.K):=by
 intro pins s σ H x y v u Q I rx ry h
 obtain⟨a,b,xs,ys,rfl,rfl,ha,hb,hx,hz,q1,q2⟩:=h
 cases rx
 cases ry
 obtain⟨its,r1,p1,_⟩:=I.tuple ha
 obtain⟨its2,r2,p2,_⟩:=I.tuple hb
 refine HT.cat_tup p1 p2 (fun z=>hx (r1.nil_iff.mp z)) (fun z=>⟨.ref a,H,I,rfl,q1 (r2.nil_iff.mp z)⟩) (fun z=>?_) (by rw[<-r1.length,<-r2.length];exact hz)
 refine⟨.ref s.heap.objs.size,_,I.laid (t':=s.toks) (o:=.tup (xs++ys)) (fun b ob q=>Heap.get?_push_of_some _ q) (Nat.le_refl _) ?_,rfl,q2 (fun w=>z (r2.nil_iff.mpr w)) _ (I.hok.fresh (Nat.le_refl _))⟩
 exact⟨by rw[List.length_append];exact hz,_,r1.append r2,IsTup.new _ _⟩
end
end L2
namespace L2
open PySem PySem.Spec PyProof.Rows
def ixN (n:Nat)(i:Int):Option Nat:=if 0<=i then(if i<n then some i.toNat else none) else if -(n:Int)<=i then some (i+n).toNat else none
def atI {α:Type}(xs:List α)(i:Int):Option α:=(ixN xs.length i).bind fun j=>xs[j]?
theorem ixN_seq {n:Nat}{i:Int}{j:Nat}(h:ixN n i=some j):seqIndex? i n=some j/\j<n/\-(n:Int)<=i/\i<n:=by
 unfold ixN at h
 by_cases h0:0<=i
 ·rw[if_pos h0] at h
  by_cases h1:i<n
  ·rw[if_pos h1] at h
   have e:i.toNat=j:=Option.some.inj h
   exact⟨by rw[seqIndex_of h0 h1,e],by omega,by omega,h1⟩
  ·rw[if_neg h1] at h;cases h
 ·rw[if_neg h0] at h
  by_cases h1:-(n:Int)<=i
  ·rw[if_pos h1] at h
   have e:(i+n).toNat=j:=Option.some.inj h
   exact⟨by rw[seqIndex_neg (by omega) h1,e],by omega,h1,by omega⟩
  ·rw[if_neg h1] at h;cases h
theorem atI_get {α:Type}{xs:List α}{i:Int}{v:α}(h:atI xs i=some v):∃j,seqIndex? i xs.length=some j/\xs[j]?=some v/\j<xs.length/\-(xs.length:Int)<=i/\i<xs.length:=by
 unfold atI at h
 cases e:ixN xs.length i with
 |none=>rw[e] at h;cases h
 |some j =>
  rw[e] at h
  obtain⟨h1,h2,h3,h4⟩:=ixN_seq e
  exact⟨j,h1,h,h2,h3,h4⟩
theorem atI_nat {α:Type}{xs:List α}{j:Nat}{v:α}(h:xs[j]?=some v):atI xs (j:Int)=some v:=by
 have hj:j<xs.length:=(List.getElem?_eq_some_iff.mp h).1
 have e:ixN xs.length (j:Int)=some j:=by
  unfold ixN
  rw[if_pos (by omega),if_pos (by omega)];simp
 unfold atI;rw[e];exact h
def PlainIx (b:Expr):Prop:=∀o i,subscripted b false o i=operate [o,i] (getItem o i)
def IxR (X:Cx)(r:R2):Prop :=
 ∀(value slice:Expr) (pins:List (Addr×Obj)) (s:Shared) (σ:St) (H:Hp) (x y:V) (v u:Value) (Q:VK),Inv X pins σ H s->RelV x v->RelV y u->r x y H Q ->
  subscripted slice false v u=operate [v,u] (getItem v u)->wpAny (model X.prog X.w) X.A (subscriptTail value slice v u) (EP X pins σ Q) X.xe s
def MtR (X:Cx)(id:String)(r:V->List V->Hp->VK->Prop):Prop :=
 ∀(pins:List (Addr×Obj)) (s:Shared) (σ:St) (H:Hp) (x:V) (xs:List V) (v:Value) (us:List Value) (Q:VK),Inv X pins σ H s->RelV x v->Vals xs us->r x xs H Q ->
  wpAny (model X.prog X.w) X.A (call (.builtin id) (v::us)) (EP X pins σ Q) X.xe s
section
variable {X:Cx} {a b:Expr} {ta tb:TE} {pos:Pos}
theorem IxR.or {r r':R2}(h:IxR X r)(h':IxR X r'):IxR X (fun x y H Q=>r x y H Q\/r' x y H Q):=by
 intro value slice pins s σ H x y v u Q I rx ry q hs
 rcases q with q|q
 ·exact h value slice pins s σ H x y v u Q I rx ry q hs
 ·exact h' value slice pins s σ H x y v u Q I rx ry q hs
theorem MtR.or {id:String}{r r':V->List V->Hp->VK->Prop}(h:MtR X id r)(h':MtR X id r'):MtR X id (fun x xs H Q=>r x xs H Q\/r' x xs H Q):=by
 intro pins s σ H x xs v us Q I rx rs q
 rcases q with q|q
 ·exact h pins s σ H x xs v us Q I rx rs q
 ·exact h' pins s σ H x xs v us Q I rx rs q
theorem pe_ix {r:R2}(hr:IxR X r)(ha:PE X a ta)(hb:PE X b tb)(hs:PlainIx b):PE X (.Subscript a b pos) (tOp r ta tb):=by
 intro pins s σ H Q I h
 exact Subscript_ (binT ha hb I h fun v u s2 x y H2 I2 rx ry q=>hr a b pins s2 σ H2 x y v u Q I2 rx ry q (hs _ _))
def rIxL (K:PySem.W.Frag):R2:=fun x y H Q=>∃p xs i v,x=.ref p/\y=.int i/\SqL K H p xs/\atI xs i=some v/\Q v H
def rIxT (K:PySem.W.Frag):R2:=fun x y H Q=>∃p xs i v,x=.ref p/\y=.int i/\SqT K H p xs/\atI xs i=some v/\Q v H
def rIxS:R2:=fun x y H Q=>∃z i c,x=.str z/\y=.int i/\z.length<=sizeLine/\atI z.cps.toList i=some c/\Q (.str ⟨#[c]⟩) H
theorem ix_list:IxR X (rIxL X.K):=by
 intro value slice pins s σ H x y v u Q I rx ry h hs
 obtain⟨p,xs,i,z,rfl,rfl,hq,he,q⟩:=h
 cases rx
 obtain⟨t,rfl⟩:=ry
 obtain⟨its,r,pl,hz⟩:=I.list hq
 obtain⟨j,h1,h2,h3,h4,h5⟩:=atI_get he
 obtain⟨w,ew,rw'⟩:=r.get h2
 have hl:=r.length
 have hn:=line63
 have fin:EP X pins σ Q w s:=⟨z,H,I,rw',q⟩
 by_cases h0:0<=i
 ·have hj:i.toNat=j:=by
   rw[seqIndex_of h0 h5] at h1
   exact Option.some.inj h1
  exact item_listR pl.isList h0 (by omega) (by rw[hj];simpa using ew) fin hs
 ·have hj:(i+(its.toArray.size:Int)).toNat=j:=by
   rw[seqIndex_neg (by omega) h4] at h1
   rw[List.size_toArray,<-hl]
   exact Option.some.inj h1
  exact subscriptTail_builtinR (x:=w) pl.isList.typeIs slot_list_getitem.lookup
   (wpAny_getItem_list_neg (Q:=fun r s'=>r=w/\EP X pins σ Q r s') pl.isList (by omega) (by rw[List.size_toArray]<;>omega) (by omega) (by rw[hj];simpa using ew) ⟨rfl,fin⟩) hs
theorem ix_tup:IxR X (rIxT X.K):=by
 intro value slice pins s σ H x y v u Q I rx ry h hs
 obtain⟨p,xs,i,z,rfl,rfl,hq,he,q⟩:=h
 cases rx
 obtain⟨t,rfl⟩:=ry
 obtain⟨its,r,pl,hz⟩:=I.tuple hq
 obtain⟨j,h1,h2,h3,h4,h5⟩:=atI_get he
 obtain⟨w,ew,rw'⟩:=r.get h2
 have hl:=r.length
 have hn:=line63
 have fin:EP X pins σ Q w s:=⟨z,H,I,rw',q⟩
 exact subscriptTail_builtinR (x:=w) pl.typeIs slot_tuple_getitem.lookup
  (getItem_tuple (j:=j) (Q:=fun r s'=>r=w/\EP X pins σ Q r s') pl (by omega) (by omega) (by rw[List.size_toArray,<-hl];exact h1) (by simpa using ew) ⟨rfl,fin⟩) hs
theorem ix_str:IxR X rIxS:=by
 intro value slice pins s σ H x y v u Q I rx ry h hs
 obtain⟨z,i,c,rfl,rfl,hz,he,q⟩:=h
 obtain⟨t,rfl⟩:=rx
 obtain⟨t',rfl⟩:=ry
 obtain⟨j,h1,h2,h3,h4,h5⟩:=atI_get he
 have hl:z.cps.toList.length=z.length:=by simp[Str.length]
 rw[hl] at h1 h4 h5
 have hn:=line63
 exact tail_any (typeIs_str s z t) slot_str_getitem.lookup (getItem_str (c:=c) (by
  have e1:decide (i < -(2 ^ 63:Int))=false:=decide_eq_false (by omega)
  have e2:decide (i ≥ 2 ^ 63)=false:=decide_eq_false (by omega)
  rw[e1,e2,Bool.or_false]) (by rw[h1];simpa using h2) ⟨.str ⟨#[c]⟩,H,I.tok _,⟨_,rfl⟩,q⟩) hs
def rIx (K:PySem.W.Frag):R2:=fun x y H Q=>rIxL K x y H Q\/rIxT K x y H Q\/rIxS x y H Q
theorem ix_seq:IxR X (rIx X.K):=ix_list.or (ix_tup.or ix_str)
theorem mapSeq_set (its:List Value)(n j:Nat)(u:Value):Obj.mapSeq (·.setIfInBounds j u) { cls:=.type "list", data:=.seq its.toArray n }={ cls:=.type "list", data:=.seq (its.set j u).toArray n }:=by
 simp[Obj.mapSeq]
theorem Inv.lst {pins:List (Addr×Obj)}{σ:St}{H:Hp}{s:Shared}{p:Addr}{xs:List V}(I:Inv X pins σ H s)(h:H p=some (.lst xs)) :
  ∃(its:List Value) (n:Nat),Vals xs its/\s.heap.get? p=some { cls:=.type "list", data:=.seq its.toArray n }/\xs.length<=sizeLine:=by
 obtain⟨z,its,n,r,e⟩:=I.hok p _ h
 exact⟨its,n,r,e,z⟩
theorem Inv.lstUpd {pins:List (Addr×Obj)}{σ:St}{H:Hp}{s:Shared}{p:Addr}{xs ys:List V}{its its':List Value}{n n':Nat}{f:Obj->Obj}(I:Inv X pins σ H s)(h:H p=some (.lst xs))
  (ho:s.heap.get? p=some { cls:=.type "list", data:=.seq its.toArray n }) (hf:f { cls:=.type "list", data:=.seq its.toArray n }={ cls:=.type "list", data:=.seq its'.toArray n' }) (r:Vals ys its') (hz:ys.length<=sizeLine) (t:Nat) :
  Inv X pins σ (upd H p (.lst ys)) { s with heap:=s.heap.update p f,toks:=t }:=by
 have e:(s.heap.update p f).get? p=some { cls:=.type "list", data:=.seq its'.toArray n' }:=by
  rw[Heap.get?_update_self f ho (by rw[hf]<;>rfl),hf]
 refine I.write (x:=p) (e:=p) (by rw[h];trivial) (.inl rfl) (fun b u hb q=>(Heap.get?_update_other _ _ (Ne.symm hb)).trans q) ⟨_,e⟩ ?_
 exact⟨hz,its',n',r,e⟩
def rSetL:V->V->V->Hp->(Hp->Prop)->Prop:=fun o i v H Q=>∃p xs k j,o=.ref p/\i=.int k/\H p=some (.lst xs)/\ixN xs.length k=some j/\Q (upd H p (.lst (xs.set j v)))
theorem set_list:PSet X rSetL:=by
 intro pins s σ H o i v ov iv u Q I ro ri rv h
 obtain⟨p,xs,k,j,rfl,rfl,hp,hj,q⟩:=h
 cases ro
 obtain⟨t,rfl⟩:=ri
 obtain⟨its,n,r,ho,hz⟩:=I.lst hp
 obtain⟨h1,h2,h3,h4⟩:=ixN_seq hj
 have hl:=r.length
 have hn:=line63
 have I':Inv X pins σ (upd H p (.lst (xs.set j v))) { s with heap:=s.heap.update p (Obj.mapSeq (·.setIfInBounds j u)) } :=
  I.lstUpd hp ho (mapSeq_set its n j u) (r.set rv j) (by rw[List.length_set];exact hz) s.toks
 by_cases h0:0<=k
 ·have hk:k.toNat=j:=by
   rw[seqIndex_of h0 h4] at h1
   exact Option.some.inj h1
  exact PySem.W.ki_setAt ho h0 (by omega) (by rw[List.size_toArray,<-hl];exact h4) (by rw[hk];exact⟨_,I',q⟩)
 ·have hk:(k+(its.toArray.size:Int)).toNat=j:=by
   rw[seqIndex_neg (by omega) h3] at h1
   rw[List.size_toArray,<-hl]
   exact Option.some.inj h1
  exact PySem.W.ki_setBack ho (by omega) (by rw[List.size_toArray,<-hl];exact h3) (by omega) (by rw[hk];exact⟨_,I',q⟩)
theorem slice_bounds (lo hi:Option Int)(n:Nat):(sliceBounds lo hi none n).1=((HT.sIx n 0 lo:Nat):Int)/\(sliceBounds lo hi none n).2.1=((HT.sIx n n hi:Nat):Int)/\(sliceBounds lo hi none n).2.2=1:=by
 refine⟨?_,?_,rfl⟩
 ·cases lo with
  |none=>simp[sliceBounds,HT.sIx]
  |some i =>
   simp only[sliceBounds,HT.sIx,Option.getD_none,show(1:Int) > 0 by decide,if_true]
   by_cases h:i<0
   ·simp only[h,if_true]<;>omega
   ·simp only[h,if_false]<;>omega
 ·cases hi with
  |none=>simp[sliceBounds,HT.sIx]
  |some i =>
   simp only[sliceBounds,HT.sIx,Option.getD_none,show(1:Int) > 0 by decide,if_true]
   by_cases h:i<0
   ·simp only[h,if_true]<;>omega
   ·simp only[h,if_false]<;>omega
theorem slicePick_cut (its:List Value)(lo hi:Option Int):slicePick its.toArray lo hi none=((its.drop (HT.sIx its.length 0 lo)).take (HT.sIx its.length its.length hi - HT.sIx its.length 0 lo)).toArray:=by
 obtain⟨h1,h2,h3⟩:=slice_bounds lo hi its.toArray.size
 unfold slicePick
 rw[h1,h2,h3]
 simp only[sliceRange_one,pick_run,List.size_toArray]<;>rfl
def rSlL (K:PySem.W.Frag):V->Option Int->Option Int->Hp->VK->Prop:=fun x lo hi H Q=>∃a xs,x=.ref a/\SqL K H a xs/\∀p,H p=none->Q (.ref p) (upd H p (.lst (cutV xs lo hi)))
theorem sl_list:SlR X (rSlL X.K):=by
 intro pins s σ H x v vl vu lo hi sl Q I rx hs pl pu h
 obtain⟨a,xs,rfl,hx,q⟩:=h
 cases rx
 obtain⟨its,r,ht,hz⟩:=I.list hx
 have hlen:=r.length
 refine⟨"list", _,slot_list_getitem.lookup,ht.isList.typeIs,?_⟩
 refine wpAny_getItem_list_slice ht.isList hs pl pu .none (by simp) ?_ (by rw[List.size_toArray]<;>omega)
 rw[slicePick_cut,<-hlen]
 refine⟨.ref s.heap.objs.size,_,I.laid (t':=s.toks) (o:=.lst (cutV xs lo hi)) (fun b ob q=>Heap.get?_push_of_some _ q) (Nat.le_refl _) ?_,rfl,q _ (I.hok.fresh (Nat.le_refl _))⟩
 exact⟨Nat.le_trans (cutV_length xs lo hi) hz,_,0,(r.drop (HT.sIx xs.length 0 lo)).take (HT.sIx xs.length xs.length hi - HT.sIx xs.length 0 lo),Heap.get?_push_size _ rfl⟩
def flatV:V->Bool
 |.non=>true
 |.bl _=>true
 |.int _=>true
 |.str _=>true
 |_=>false
def eqV:V->V->Bool
 |.non,.non=>true
 |.bl a,.bl b=>a==b
 |.bl a,.int b=>(if a then 1 else 0)==b
 |.int a,.bl b=>a==(if b then 1 else 0)
 |.int a,.int b=>a==b
 |.str a,.str b=>a==b
 |_,_=>false
theorem eqAt_V {A:Around}{s:Shared}{y x:V}{u v:Value}(ry:RelV y u)(rx:RelV x v)(fy:flatV y=true)(fx:flatV x=true):SeqAt.EqAt A s u v (eqV y x):=by
 cases y with
 |non =>
  cases ry
  cases x with
  |non=>cases rx;exact SeqAt.EqAt.same _
  |bl b=>cases rx;exact SeqAt.EqAt.none_bool b
  |int b=>obtain⟨t,rfl⟩:=rx;exact SeqAt.EqAt.none_int b t
  |str b=>obtain⟨t,rfl⟩:=rx;exact SeqAt.EqAt.none_str b t
  |_=>exact absurd (show false=true from fx) Bool.false_ne_true
 |bl a =>
  cases ry
  cases x with
  |non=>cases rx;exact SeqAt.EqAt.bool_none a
  |bl b=>cases rx;exact SeqAt.EqAt.bool_bool a b
  |int b=>obtain⟨t,rfl⟩:=rx;exact SeqAt.EqAt.bool_int a b t
  |str b=>obtain⟨t,rfl⟩:=rx;exact SeqAt.EqAt.bool_str a b t
  |_=>exact absurd (show false=true from fx) Bool.false_ne_true
 |int a =>
  obtain⟨t',rfl⟩:=ry
  cases x with
  |non=>cases rx;exact SeqAt.EqAt.int_none a t'
  |bl b=>cases rx;exact SeqAt.EqAt.int_bool a t' b
  |int b=>obtain⟨t,rfl⟩:=rx;exact SeqAt.EqAt.int_int a t' b t
  |str b=>obtain⟨t,rfl⟩:=rx;exact SeqAt.EqAt.int_str a t' b t
  |_=>exact absurd (show false=true from fx) Bool.false_ne_true
 |str a =>
  obtain⟨t',rfl⟩:=ry
  cases x with
  |non=>cases rx;exact SeqAt.EqAt.str_none a t'
  |bl b=>cases rx;exact SeqAt.EqAt.str_bool a t' b
  |int b=>obtain⟨t,rfl⟩:=rx;exact SeqAt.EqAt.str_int a t' b t
  |str b=>obtain⟨t,rfl⟩:=rx;exact SeqAt.EqAt.str_str a t' b t
  |_=>exact absurd (show false=true from fx) Bool.false_ne_true
 |_=>exact absurd (show false=true from fy) Bool.false_ne_true
def eqU (x:V)(u:Value):Bool:=match u with
 |.none=>eqV .non x
 |.bool b=>eqV (.bl b) x
 |.int i _=>eqV (.int i) x
 |.str z _=>eqV (.str z) x
 |_=>false
theorem eqU_of {x y:V}{u:Value}(r:RelV y u)(f:flatV y=true):eqU x u=eqV y x:=by
 cases y with
 |non=>cases r;rfl
 |bl b=>cases r;rfl
 |int i=>obtain⟨t,rfl⟩:=r;rfl
 |str z=>obtain⟨t,rfl⟩:=r;rfl
 |_=>exact absurd (show false=true from f) Bool.false_ne_true
theorem any_eqU {x:V}:∀{xs:List V} {us:List Value},Vals xs us->xs.all flatV=true->us.any (eqU x)=xs.any fun y=>eqV y x
 |_,_,.nil,_=>rfl
 |y::xs,u::us,.cons r t,f=>by
  rw[List.all_cons,Bool.and_eq_true] at f
  rw[List.any_cons,List.any_cons,eqU_of r f.1,any_eqU t f.2]
theorem mem_eqAt {A:Around}{s:Shared}{x:V}{v:Value}(rx:RelV x v)(fx:flatV x=true):∀{xs:List V} {us:List Value},Vals xs us->xs.all flatV=true->∀u∈us,SeqAt.EqAt A s u v (eqU x u)
 |_,_,.nil,_=>fun u hu=>by cases hu
 |y::xs,u::us,.cons r t,f=>fun u' hu=>by
  rw[List.all_cons,Bool.and_eq_true] at f
  rcases List.mem_cons.mp hu with rfl|hu
  ·rw[eqU_of r f.1];exact eqAt_V r rx f.1 fx
  ·exact mem_eqAt rx fx t f.2 u' hu
def inV (x:V)(xs:List V):Bool:=xs.any fun y=>eqV y x
def rIn (K:PySem.W.Frag)(neg:Bool):R2:=fun x y H Q=>∃p xs,y=.ref p/\(SqL K H p xs\/SqT K H p xs)/\flatV x=true/\xs.all flatV=true/\Q (.bl (if neg then !inV x xs else inV x xs)) H
theorem op_notIn_seq:OpR X (compareOp .NotIn) (rIn X.K true):=by
 intro pins s σ H x y v u Q I rx ry h
 obtain⟨p,xs,rfl,hq,fx,fs,q⟩:=h
 cases ry
 rcases hq with hq|hq
 ·obtain⟨its,r,pl,hz⟩:=I.list hq
  refine SeqAt.notIn_listAt (eqU x) pl.isList (fun w hw=>mem_eqAt rx fx r fs w (by simpa using hw)) ⟨.bl _,H,I,rfl,?_⟩
  rw[show its.toArray.any (eqU x)=its.any (eqU x) by simp,any_eqU r fs]
  exact q
 ·obtain⟨its,r,pl,hz⟩:=I.tuple hq
  refine SeqAt.notIn_tupleAt (eqU x) pl (fun w hw=>mem_eqAt rx fx r fs w (by simpa using hw)) ⟨.bl _,H,I,rfl,?_⟩
  rw[show its.toArray.any (eqU x)=its.any (eqU x) by simp,any_eqU r fs]
  exact q
theorem call_len_seq:CallR X (.builtin "len") (fun xs H Q=>∃p ys,xs=[.ref p]/\(SqL X.K H p ys\/SqT X.K H p ys)/\Q (.int ys.length) H):=by
 intro pins s σ H xs us Q I r h
 obtain⟨p,ys,rfl,hq,q⟩:=h
 obtain⟨u,rfl,rx⟩:=vals1 r
 cases rx
 have hn:=line63
 rcases hq with hq|hq
 ·obtain⟨its,r',pl,hz⟩:=I.list hq
  have hlen:=r'.length
  exact Calls.call_len_list pl.isList (by simp only[List.size_toArray]<;>omega) ⟨.int ys.length,H,I.tok _,⟨s.toks+1,by rw[List.size_toArray,hlen]⟩,q⟩
 ·obtain⟨its,r',pl,hz⟩:=I.tuple hq
  have hlen:=r'.length
  exact len_tuple pl (by simp only[List.size_toArray]<;>omega) ⟨.int ys.length,H,I.tok _,⟨s.toks+1,by rw[List.size_toArray,hlen]⟩,q⟩
theorem call_len_str:CallR X (.builtin "len") (fun xs H Q=>∃z,xs=[.str z]/\z.length<=sizeLine/\Q (.int z.length) H):=by
 intro pins s σ H xs us Q I r h
 obtain⟨z,rfl,hz,q⟩:=h
 obtain⟨u,rfl,t,rfl⟩:=vals1 r
 have hn:=line63
 exact len_str (by omega) ⟨.int z.length,H,I.tok _,⟨_,rfl⟩,q⟩
theorem CallR.or {f:Value}{r r':List V->Hp->VK->Prop}(h:CallR X f r)(h':CallR X f r'):CallR X f (fun xs H Q=>r xs H Q\/r' xs H Q):=by
 intro pins s σ H xs us Q I rs q
 rcases q with q|q
 ·exact h pins s σ H xs us Q I rs q
 ·exact h' pins s σ H xs us Q I rs q
theorem call_tuple_of:CallR X (.type "tuple") (fun xs H Q=>∃p ys,xs=[.ref p]/\((SqL X.K H p ys/\∀l,H l=none->Q (.ref l) (upd H l (.tup ys)))\/(SqT X.K H p ys/\Q (.ref p) H))):=by
 intro pins s σ H xs us Q I r h
 obtain⟨p,ys,rfl,h⟩:=h
 obtain⟨u,rfl,rx⟩:=vals1 r
 cases rx
 rcases h with⟨hq,q⟩|⟨hq,q⟩
 ·obtain⟨its,r',pl,hz⟩:=I.list hq
  have hlen:=r'.length
  refine call_tuple_list pl.isList (fun h' kp=>?_) (by simp only[List.size_toArray]<;>omega)
  have I1:Inv X pins σ H { s with heap:=h' }:=I.kept (t':=s.toks) kp
  have I2:Inv X pins σ (upd H h'.objs.size (.tup ys)) { s with heap:=h'.push { cls:=.type "tuple", data:=.seq its.toArray } } :=
   I1.laid (t':=s.toks) (fun b o e=>Heap.get?_push_of_some _ e) (Nat.le_refl _) (show ObjOk X.prog X.w _ _ _ (.tup ys) from⟨hz,its,r',IsTup.new _ _⟩)
  exact⟨.ref h'.objs.size,_,I2,rfl,q _ (I1.hok.fresh (Nat.le_refl _))⟩
 ·obtain⟨its,r',pl,hz⟩:=I.tuple hq
  exact call_tuple_same pl ⟨.ref p,H,I,rfl,q⟩
def tyV (K:PySem.W.Frag)(T:String)(x:V)(H:Hp):Prop:=match x with
 |.str _=>T = "str"
 |.int _=>T = "int"
 |.ref p=>(T = "list"/\∃xs,SqL K H p xs)\/(T = "tuple"/\∃o,K.lookup p=some o/\o.cls=.type "tuple"/\o.dict=none) \/
   (T = "dict"/\((∃kvs,H p=some (.dK kvs))\/∃kvs,H p=some (.dT kvs)))\/(T = "set"/\∃S n,H p=some (.set S n))
 |_=>False
theorem tyV_is {pins:List (Addr×Obj)}{σ:St}{H:Hp}{s:Shared}{T:String}{x:V}{v:Value}(I:Inv X pins σ H s)(r:RelV x v)(ty:tyV X.K T x H) :
  s.TypeIs v T/\∀a,v=.ref a->∃ob,s.heap.get? a=some ob/\ob.dict=none:=by
 cases x with
 |str z =>
  obtain⟨t,rfl⟩:=r
  cases (show T = "str" from ty)
  exact⟨typeIs_str s z t,fun _ e=>nomatch e⟩
 |int i =>
  obtain⟨t,rfl⟩:=r
  cases (show T = "int" from ty)
  exact⟨typeIs_int s i t,fun _ e=>nomatch e⟩
 |ref p =>
  cases r
  rcases ty with⟨rfl,xs,hq⟩|⟨rfl,o,hk,hc,hd⟩|⟨rfl,hk⟩|⟨rfl,S,n,hk⟩
  ·obtain⟨its,_,pl,_⟩:=I.list hq
   refine⟨pl.isList.typeIs,fun a e=>?_⟩
   cases e
   obtain⟨o,n,e,c,hd,_⟩:=pl
   exact⟨o,e,hd⟩
  ·refine⟨⟨o,I.kIn p o hk,hc⟩,fun a e=>?_⟩
   cases e
   exact⟨o,I.kIn _ o hk,hd⟩
  ·have z:∃o,s.heap.get? p=some o/\o.ExactDict:=by
    rcases hk with⟨kvs,hk⟩|⟨kvs,hk⟩
    ·obtain⟨_,_,_,_,o,_,_,e,ex,_⟩:=I.hok p _ hk
     exact⟨o,e,ex⟩
    ·obtain⟨_,_,_,_,o,_,_,e,ex,_⟩:=I.hok p _ hk
     exact⟨o,e,ex⟩
   obtain⟨o,e,ex⟩:=z
   refine⟨⟨o,e,ex.1⟩,fun a e2=>?_⟩
   cases e2
   exact⟨o,e,ex.2.1⟩
  ·obtain⟨o,_,_,_,e,ex,_⟩:=I.hok p _ hk
   refine⟨⟨o,e,ex.1⟩,fun a e2=>?_⟩
   cases e2
   exact⟨o,e,ex.2.1⟩
 |_=>exact False.elim ty
def tBM0 (K:PySem.W.Frag)(T:String)(r:V->List V->Hp->VK->Prop)(to:TE):TE:=fun σ H Q=>to σ H fun x H1=>tyV K T x H1/\r x [] H1 Q
def tBM (K:PySem.W.Frag)(T:String)(r:V->List V->Hp->VK->Prop)(to:TE)(t:TA):TE:=fun σ H Q=>to σ H fun x H1=>tyV K T x H1/\t σ H1 fun xs H2=>r x xs H2 Q
variable {o e:Expr} {es:List Expr} {to:TE} {t:TA} {name:Str} {apos cpos:Pos} {T id:String} {r:V->List V->Hp->VK->Prop}
theorem pe_bm0 (pa:PlainAttrs T)(slot:Slot T name id) (hty:typeOf (.builtin id)=pure (.type "method_descriptor")) (hm:MtR X id r) (ho:PE X o to)
  (hbase:attributeBase o name X.env (eval o X.env)=eval o X.env:=by rfl) (hline:(apos.endLine==cpos.line)=true:=by rfl):PE X (.Call (.Attribute o name apos) [] [] cpos) (tBM0 X.K T r to):=by
 intro pins s σ H Q I h
 refine wpAny_Call_method0_late hbase hline (thn (ho pins s σ H _ I h) fun v s1 ⟨x,H1,I1,r1,ty,q1⟩=>?_)
 obtain⟨h1,h2⟩:=tyV_is I1 r1 ty
 exact⟨T,id,pa,slot,hty,h1,h2,Calls.callWith_builtin rfl (PySem.evalArgs_none (hm pins s1 σ H1 x [] v [] Q I1 r1 .nil q1))⟩
theorem pe_bm (pa:PlainAttrs T)(slot:Slot T name id) (hty:typeOf (.builtin id)=pure (.type "method_descriptor")) (hm:MtR X id r) (ho:PE X o to) (ha:PA X (e::es) t)
  (hbase:attributeBase o name X.env (eval o X.env)=eval o X.env:=by rfl)
  (hfew:((backTo cpos (starEach (e::es) X.env)).all (fun x=>!x.1)&&(backToKw cpos (keywordEach [] X.env)).all (fun x=>x.1.isSome)
   && decide ((e::es).length+([]:List Keyword).length+(if([]:List Keyword).isEmpty then 0 else 1)<30))=true:=by rfl)
  (hline:(apos.endLine==cpos.line)=true:=by rfl) (hs:starEach (e::es) X.env=(false,eval e X.env)::starEach es X.env:=by rfl) (hplain:(backTo cpos (starEach es X.env)).any (·.1)=false:=by rfl) :
  PE X (.Call (.Attribute o name apos) (e::es) [] cpos) (tBM X.K T r to t):=by
 intro pins s σ H Q I h
 refine wpAny_Call_method_late hbase hfew hline rfl (thn (ho pins s σ H _ I h) fun v s1 ⟨x,H1,I1,r1,ty,q1⟩=>?_)
 obtain⟨h1,h2⟩:=tyV_is I1 r1 ty
 refine⟨T,id,pa,slot,hty,h1,h2,?_⟩
 have hA:=ha cpos pins s1 σ H1 _ I1 q1
 rw[hs] at hA ⊢
 refine Calls.callWith_builtin (by show(false||(backTo cpos (starEach es X.env)).any (·.1))=false;rw[hplain]<;>rfl) (Calls.evalArgs_plain ?_)
 exact thn hA fun us s2 ⟨vs,H2,I2,r2,q2⟩=>hm pins s2 σ H2 x vs v us Q I2 r1 r2 q2
end
end L2
namespace L2
open PySem PySem.Spec PyProof.Rows
def MtM (X:Cx)(id:String)(r:V->List V->Hp->VK->Prop):Prop :=
 ∀(pins:List (Addr×Obj)) (s:Shared) (σ:St) (H:Hp) (x:V) (xs:List V) (v:Value) (us:List Value) (Q:VK),Inv X pins σ H s->RelV x v->Vals xs us->r x xs H Q ->
  wpAny (model X.prog X.w) X.A (call (.builtin id) (v::us)) (EP X pins σ Q) X.xe s
theorem Vals.one:∀{x:V} {us:List Value},Vals [x] us->∃u,us=[u]/\RelV x u
 |_,_,.cons r .nil=>⟨_,rfl,r⟩
theorem Vals.two:∀{x y:V} {us:List Value},Vals [x,y] us->∃u v,us=[u,v]/\RelV x u/\RelV y v
 |_,_,_,.cons r (.cons q .nil)=>⟨_,_,rfl,r,q⟩
theorem Vals.zero:∀{us:List Value},Vals [] us->us=[]
 |_,.nil=>rfl
theorem Vals.dropLast {xs:List V}{us:List Value}(h:Vals xs us):Vals xs.dropLast us.dropLast:=by
 induction h with
 |nil=>exact .nil
 |cons r t ih =>
  cases t with
  |nil=>exact .nil
  |cons q t'=>exact .cons r ih
theorem Vals.eraseIdx:∀{xs:List V} {us:List Value} (i:Nat),Vals xs us->Vals (xs.eraseIdx i) (us.eraseIdx i)
 |_,_,_,.nil=>.nil
 |_,_,0,.cons _ t=>t
 |_,_,i+1,.cons r t=>.cons r (Vals.eraseIdx i t)
theorem Vals.reverse {xs:List V}{us:List Value}(h:Vals xs us):Vals xs.reverse us.reverse:=by
 induction h with
 |nil=>exact .nil
 |cons r t ih=>rw[List.reverse_cons,List.reverse_cons];exact Vals.append ih (.cons r .nil)
theorem erase_last {α:Type}(l:List α):l.eraseIdx (l.length - 1)=l.dropLast:=by
 induction l with
 |nil=>rfl
 |cons a r ih =>
  cases r with
  |nil=>rfl
  |cons b r =>
   have e:(a::b::r).length - 1=((b::r).length - 1)+1:=by
    have h1:(a::b::r).length=r.length+2:=rfl
    have h2:(b::r).length=r.length+1:=rfl
    omega
   rw[e,List.eraseIdx_cons_succ,ih]
   all_goals rfl
section
variable {X:Cx} {pins:List (Addr×Obj)} {σ:St} {H:Hp} {s:Shared} {l b:Addr} {xs ys zs:List V}
theorem Inv.lset {its its':List Value}{n:Nat}{f:Array Value->Array Value}{t':Nat}(I:Inv X pins σ H s)(hH:H l=some (.lst xs))
  (e:s.heap.get? l=some { cls:=.type "list", data:=.seq its.toArray n }) (hf:f its.toArray=its'.toArray) (hv:Vals ys its') (hz:ys.length<=sizeLine) :
  Inv X pins σ (upd H l (.lst ys)) { s with heap:=s.heap.update l (Obj.mapSeq f),toks:=t' }:=by
 have q:=PySem.IsL.update e f
 rw[hf] at q
 refine I.write (x:=l) (e:=l) (by rw[hH];exact trivial) (.inl rfl) (fun b' u hb hu=>(Heap.get?_update_other s.heap (Obj.mapSeq f) (Ne.symm hb)).trans hu) ⟨_,q⟩ ?_
 exact⟨hz,its',_,hv,q⟩
theorem Inv.lnew {its:List Value}{t':Nat}(I:Inv X pins σ H s)(hv:Vals ys its)(hz:ys.length<=sizeLine) :
  Inv X pins σ (upd H s.heap.objs.size (.lst ys)) { s with heap:=s.heap.push { cls:=.type "list", data:=.seq its.toArray },toks:=t' } :=
 I.laid (fun _ _ q=>Heap.get?_push_of_some _ q) (Nat.le_refl _) ⟨hz,its,0,hv,Heap.get?_push_size _ rfl⟩
theorem Inv.fresh (I:Inv X pins σ H s):H s.heap.objs.size=none:=I.hok.fresh (Nat.le_refl _)
theorem Inv.lstM (I:Inv X pins σ H s)(hH:H l=some (.lst xs)):xs.length<=sizeLine/\∃(its:List Value) (n:Nat),Vals xs its/\xs.length=its.length/\s.heap.get? l=some { cls:=.type "list", data:=.seq its.toArray n }:=by
 obtain⟨z,its,n,r,e⟩:=I.hok l _ hH
 exact⟨z,its,n,r,r.length,e⟩
end
section
variable {X:Cx}
def rAppend:V->List V->Hp->VK->Prop:=fun x vs H Q=>∃l xs y,x=.ref l/\vs=[y]/\H l=some (.lst xs)/\xs.length<sizeLine/\Q .non (upd H l (.lst (xs++[y])))
theorem mt_append:MtM X "list.append" rAppend:=by
 intro pins s σ H x vs v us Q I rx rv h
 obtain⟨l,xs,y,rfl,rfl,hH,hz,q⟩:=h
 cases rx
 obtain⟨u,rfl,ru⟩:=rv.one
 obtain⟨z,its,n,r,hl,e⟩:=I.lstM hH
 refine call_meets F.slot_list_append ⟨_,e,rfl⟩ F.entry_list_append (F.args_list_append_2 _ _) (PySem.list_append l its.toArray n u (by rw[List.size_toArray];omega)) ⟨e,?_⟩
 refine⟨.non,_,I.lset (its':=its++[u]) hH e (by simp) (r.append (.cons ru .nil)) ?_,rfl,q⟩
 rw[List.length_append,List.length_singleton]
 omega
def rPop:V->List V->Hp->VK->Prop:=fun x vs H Q=>∃l xs y,x=.ref l/\vs=[]/\H l=some (.lst xs)/\xs[xs.length - 1]?=some y/\Q y (upd H l (.lst xs.dropLast))
theorem mt_pop:MtM X "list.pop" rPop:=by
 intro pins s σ H x vs v us Q I rx rv h
 obtain⟨l,xs,y,rfl,rfl,hH,hy,q⟩:=h
 cases rx
 have hus:=rv.zero
 subst hus
 obtain⟨z,its,n,r,hl,e⟩:=I.lstM hH
 obtain⟨u,hu,ru⟩:=r.get hy
 have hy':its.toArray[its.toArray.size - 1]?=some u:=by
  show its.toArray[its.length - 1]?=some u
  rw[<-Array.getElem?_toList,<-hl]
  exact hu
 refine call_meets F.slot_list_pop ⟨_,e,rfl⟩ F.entry_list_pop (F.args_list_pop_1 _) (MeetsSeq.list_pop_last l its.toArray n u hy' (by rw[List.size_toArray];omega)) ⟨e,?_⟩
 refine⟨y,_,I.lset (its':=its.dropLast) hH e ?_ r.dropLast ?_,ru,q⟩
 ·show its.toArray.eraseIdxIfInBounds (its.toArray.size - 1)=its.dropLast.toArray
  rw[List.size_toArray,List.eraseIdxIfInBounds_toArray,erase_last]
 ·rw[List.length_dropLast]
  omega
end
section
variable {prog:Program} {w:World} {A:Around} {E:Value->Shared->Prop} {s:Shared}
set_option maxRecDepth 100000 in
end
section
variable {X:Cx}
end
end L2
namespace L2
open PySem PySem.Spec PyProof.Rows
section
variable {κ:Type} [DecidableEq κ]
def valV (kvs:List (κ×V))(k:κ):Option V:=(kvs.find? fun kv=>decide (kv.1=k)).map (·.2)
def putK (kvs:List (κ×V))(k:κ)(v:V):List (κ×V) :=
 if(kvs.any fun kv=>decide (kv.1=k))=true then kvs.map (fun kv=>if kv.1=k then(kv.1,v) else kv) else kvs++[(k,v)]
def dropK (kvs:List (κ×V))(k:κ):List (κ×V):=kvs.filter fun kv=>decide (kv.1≠k)
theorem valV_pos {p:κ×V}{r:List (κ×V)}{k:κ}(e:p.1=k):valV (p::r) k=some p.2:=by simp[valV,List.find?_cons,e]
theorem valV_neg {p:κ×V}{r:List (κ×V)}{k:κ}(e:¬p.1=k):valV (p::r) k=valV r k:=by simp[valV,List.find?_cons,e]
theorem valV_any (k:κ):∀kvs:List (κ×V),(kvs.any fun kv=>decide (kv.1=k))=(valV kvs k).isSome
 |[]=>rfl
 |p::r=>by
  rw[List.any_cons]
  by_cases e:p.1=k
  ·simp only[valV_pos e,decide_eq_true e,Bool.true_or,Option.isSome_some]
  ·rw[valV_neg e,decide_eq_false e,Bool.false_or];exact valV_any k r
theorem length_putK (kvs:List (κ×V))(k:κ)(v:V):(putK kvs k v).length<=kvs.length+1:=by
 unfold putK
 split
 ·rw[List.length_map];omega
 ·rw[List.length_append,List.length_cons,List.length_nil];omega
theorem RelO.isSome_eq {o:Option V}{u:Option Value}(r:RelO o u):o.isSome=u.isSome:=by
 cases o with
 |none=>cases u with
  |none=>rfl
  |some _=>exact(show False from r).elim
 |some _=>cases u with
  |none=>exact(show False from r).elim
  |some _=>rfl
theorem RelO.getD {o:Option V}{u:Option Value}{d:V}{d':Value}(r:RelO o u)(rd:RelV d d'):RelV (o.getD d) (u.getD d'):=by
 cases o with
 |none=>cases u with
  |none=>exact rd
  |some _=>exact(show False from r).elim
 |some _=>cases u with
  |none=>exact(show False from r).elim
  |some _=>exact r
theorem KV.val {kvs:List (κ×V)}{vs:List (κ×Value)}(r:KV kvs vs)(k:κ):RelO (valV kvs k) (valueAt vs k):=by
 unfold KV at r
 induction r with
 |nil=>exact True.intro
 | @cons p q ps qs h t ih =>
  obtain⟨h1,h2⟩:=h
  by_cases e:p.1=k
  ·have e':q.1=k:=h1.symm.trans e
   have b:valueAt (q::qs) k=some q.2:=by simp[valueAt,List.find?_cons,e']
   rw[valV_pos e,b];exact h2
  ·have e':¬q.1=k:=fun z=>e (h1.trans z)
   have b:valueAt (q::qs) k=valueAt qs k:=by simp[valueAt,List.find?_cons,e']
   rw[valV_neg e,b];exact ih
theorem KV.any {kvs:List (κ×V)}{vs:List (κ×Value)}(r:KV kvs vs)(k:κ):(kvs.any fun kv=>decide (kv.1=k))=vs.any fun kv=>decide (kv.1=k):=by
 unfold KV at r
 induction r with
 |nil=>rfl
 |cons h t ih=>rw[List.any_cons,List.any_cons,ih,h.1]
theorem KV.repl {kvs:List (κ×V)}{vs:List (κ×Value)}(r:KV kvs vs)(k:κ){y:V}{u:Value}(ry:RelV y u) :
  KV (kvs.map fun kv=>if kv.1=k then(kv.1,y) else kv) (vs.map fun kv=>if kv.1=k then(kv.1,u) else kv):=by
 unfold KV at r ⊢
 induction r with
 |nil=>exact .nil
 | @cons p q ps qs h t ih =>
  rw[List.map_cons,List.map_cons]
  refine .cons ?_ ih
  obtain⟨h1,h2⟩:=h
  by_cases e:p.1=k
  ·rw[if_pos e,if_pos (h1.symm.trans e)];exact⟨h1,ry⟩
  ·rw[if_neg e,if_neg (fun z=>e (h1.trans z))];exact⟨h1,h2⟩
theorem KV.put {kvs:List (κ×V)}{vs:List (κ×Value)}(r:KV kvs vs)(k:κ){y:V}{u:Value}(ry:RelV y u):KV (putK kvs k y) (stored vs k u):=by
 unfold putK stored
 rw[r.any k]
 by_cases e:(vs.any fun kv=>decide (kv.1=k))=true
 ·rw[if_pos e,if_pos e];exact r.repl k ry
 ·rw[if_neg e,if_neg e];exact Paired.snoc r ⟨rfl,ry⟩
theorem KV.drop {kvs:List (κ×V)}{vs:List (κ×Value)}(r:KV kvs vs)(k:κ):KV (dropK kvs k) (without vs k):=by
 unfold KV at r ⊢
 unfold dropK without
 induction r with
 |nil=>exact .nil
 | @cons p q ps qs h t ih =>
  obtain⟨h1,h2⟩:=h
  rw[List.filter_cons,List.filter_cons]
  by_cases e:p.1=k
  ·have a:¬decide (p.1≠k)=true:=by simp[e]
   have b:¬decide (q.1≠k)=true:=by simp[h1.symm.trans e]
   rw[if_neg a,if_neg b];exact ih
  ·have e':¬q.1=k:=fun z=>e (h1.trans z)
   have a:decide (p.1≠k)=true:=by simp[e]
   have b:decide (q.1≠k)=true:=by simp[e']
   rw[if_pos a,if_pos b];exact .cons ⟨h1,h2⟩ ih
theorem KV.keys {kvs:List (κ×V)}{vs:List (κ×Value)}(r:KV kvs vs):kvs.map (·.1)=vs.map (·.1):=by
 unfold KV at r
 induction r with
 |nil=>rfl
 |cons h t ih=>rw[List.map_cons,List.map_cons,ih,h.1]
theorem KV.length {kvs:List (κ×V)}{vs:List (κ×Value)}(r:KV kvs vs):kvs.length=vs.length:=Paired.length r
end
theorem kV_is {P:Program}{w:World}{k:Key}{u:Value}(r:RelV (kV k) u):(Ya P w).is k u=true:=by
 cases k with
 |inl i=>obtain⟨t,e⟩:=(show ∃t,u=Value.int i t from r);subst e;exact mixKind_int P w i t
 |inr x=>obtain⟨t,e⟩:=(show ∃t,u=Value.str x t from r);subst e;exact mixKind_str P w x t
theorem items_are {P:Program}{w:World}:∀{ks:List Key} {us:List Value},Vals (ks.map kV) us->ItemsAre (Ya P w) ks us
 |[],_,r=>by rw[List.map_nil] at r;cases r;exact .nil
 |k::ks,_,r=>by
  rw[List.map_cons] at r
  cases r with
  |cons h t=>exact .cons (kV_is h) (items_are t)
abbrev KT (H:Hp):List (List Key×V)->List (List Key×Addr×Value)->Prop:=Paired fun p q=>p.1=q.1/\H q.2.1=some (.tup (p.1.map kV))/\RelV p.2 q.2.2
theorem KT.val {H:Hp}{kvs:List (List Key×V)}{xs:List (List Key×Addr×Value)}(r:KT H kvs xs)(k:List Key):RelO (valV kvs k) ((atKey xs k).map (·.2)):=by
 induction r with
 |nil=>exact True.intro
 | @cons p q ps qs h t ih =>
  obtain⟨h1,_,h2⟩:=h
  by_cases e:p.1=k
  ·have e':q.1=k:=h1.symm.trans e
   have b:atKey (q::qs) k=some q.2:=by simp[atKey,List.find?_cons,e']
   rw[valV_pos e,b];exact h2
  ·have e':¬q.1=k:=fun z=>e (h1.trans z)
   have b:atKey (q::qs) k=atKey qs k:=by simp[atKey,List.find?_cons,e']
   rw[valV_neg e,b];exact ih
theorem KT.repl {H:Hp}{kvs:List (List Key×V)}{xs:List (List Key×Addr×Value)}(r:KT H kvs xs)(k:List Key){y:V}{u:Value}(ry:RelV y u) :
  KT H (kvs.map fun kv=>if kv.1=k then(kv.1,y) else kv) (xs.map (putAt k u)):=by
 induction r with
 |nil=>exact .nil
 | @cons p q ps qs h t ih =>
  rw[List.map_cons,List.map_cons]
  refine .cons ?_ ih
  obtain⟨h1,h2,h3⟩:=h
  unfold putAt
  by_cases e:p.1=k
  ·rw[if_pos e,if_pos (h1.symm.trans e)];exact⟨h1,h2,ry⟩
  ·rw[if_neg e,if_neg (fun z=>e (h1.trans z))];exact⟨h1,h2,h3⟩
theorem KT.put {H:Hp}{kvs:List (List Key×V)}{xs:List (List Key×Addr×Value)}(r:KT H kvs xs)(k:List Key){b:Addr}{y:V}{u:Value}(hb:H b=some (.tup (k.map kV)))(ry:RelV y u) :
  KT H (putK kvs k y) (storedH xs k b u):=by
 have e:(kvs.any fun kv=>decide (kv.1=k))=(atKey xs k).isSome:=by
  rw[valV_any,(r.val k).isSome_eq,Option.isSome_map]
 unfold putK storedH
 rw[e]
 by_cases q:(atKey xs k).isSome=true
 ·rw[if_pos q,if_pos q];exact r.repl k ry
 ·rw[if_neg q,if_neg q];exact Paired.snoc r ⟨rfl,hb,ry⟩
theorem KT.keeps {H H':Hp}{kvs:List (List Key×V)}{xs:List (List Key×Addr×Value)}(r:KT H kvs xs)(ht:∀b ys,H b=some (.tup ys)->H' b=some (.tup ys)):KT H' kvs xs :=
 Paired.mapP r fun _ _ z=>⟨z.1,ht _ _ z.2.1,z.2.2⟩
section
variable {P:Program} {w:World} {H:Hp} {h:Heap} {a:Addr}
theorem rd_of {u:HO}(ok:HOk P w H h)(e:Rd H a u):ObjOk P w H h a u:=e.ok ok
theorem dk_rd {kvs:List (Key×V)}(ok:HOk P w H h)(e:Rd H a (.dK kvs)):kvs.length<=sizeLine/\(a==sysModules)=false/\∃vs,KV kvs vs/\h.DictOf (Ya P w) a vs :=
 show ObjOk P w H h a (.dK kvs) from rd_of ok e
theorem dk_of {kvs:List (Key×V)}(ok:HOk P w H h)(e:H a=some (.dK kvs)):kvs.length<=sizeLine/\(a==sysModules)=false/\∃vs,KV kvs vs/\h.DictOf (Ya P w) a vs:=dk_rd ok (.inl e)
theorem key_of {ks:List Key}(ok:HOk P w H h)(e:H a=some (.tup (ks.map kV))):(tupleKind (Ya P w)).is h ks a:=by
 obtain⟨_,its,r,o,h1,h2,n,h3⟩:=(show ObjOk P w H h a (.tup (ks.map kV)) from ok a _ e)
 exact⟨o,its.toArray,n,h1,h2,h3,by simpa using items_are r⟩
theorem dt_rd {kvs:List (List Key×V)}(ok:HOk P w H h)(e:Rd H a (.dT kvs)):kvs.length<=sizeLine/\(a==sysModules)=false /\
  ∃xs,KT H kvs xs/\h.DictOfH (tupleKind (Ya P w)) a xs:=by
 obtain⟨z,y,xs,r,o,es,ep,h1,h2,h3,h4,h5⟩:=(show ObjOk P w H h a (.dT kvs) from rd_of ok e)
 refine⟨z,y,xs,r,o,es,ep,h1,h2,h3,h4,fun x hx=>?_,h5⟩
 have all:∀{l:List (List Key×V)} {m:List (List Key×Addr×Value)},KT H l m->∀x∈m,(tupleKind (Ya P w)).is h x.1 x.2.1:=by
  intro l m q
  induction q with
  |nil=>intro x hx;exact nomatch hx
  | @cons p q ps qs hq t ih =>
   intro x hx
   rcases List.mem_cons.mp hx with e|hx
   ·subst e
    exact key_of ok (by rw[<-hq.1];exact hq.2.1)
   ·exact ih x hx
 exact all r x hx
theorem dt_of {kvs:List (List Key×V)}(ok:HOk P w H h)(e:H a=some (.dT kvs)):kvs.length<=sizeLine/\(a==sysModules)=false /\
  ∃xs,KT H kvs xs/\h.DictOfH (tupleKind (Ya P w)) a xs:=dt_rd ok (.inl e)
end
def DGet (H:Hp)(a:Addr)(y:V)(r:Option V):Prop :=
 (∃kvs k,Rd H a (.dK kvs)/\y=kV k/\r=valV kvs k)\/∃kvs k b,Rd H a (.dT kvs)/\y=.ref b/\H b=some (.tup (k.map kV))/\r=valV kvs k
def DPut (H:Hp)(a:Addr)(y v:V)(H':Hp):Prop :=
 (∃kvs k,H a=some (.dK kvs)/\y=kV k/\kvs.length<sizeLine/\H'=upd H a (.dK (putK kvs k v))) \/
 ∃kvs k b,H a=some (.dT kvs)/\y=.ref b/\H b=some (.tup (k.map kV))/\kvs.length<sizeLine/\H'=upd H a (.dT (putK kvs k v))
theorem DGet.k {H:Hp}{a:Addr}{kvs:List (Key×V)}{k:Key}(e:H a=some (.dK kvs)):DGet H a (kV k) (valV kvs k):=.inl ⟨kvs,k,.inl e,rfl,rfl⟩
theorem DGet.t {H:Hp}{a b:Addr}{kvs:List (List Key×V)}{k:List Key}(e:H a=some (.dT kvs))(eb:H b=some (.tup (k.map kV))):DGet H a (.ref b) (valV kvs k):=.inr ⟨kvs,k,b,.inl e,rfl,eb,rfl⟩
theorem DPut.k {H:Hp}{a:Addr}{kvs:List (Key×V)}{k:Key}{v:V}(e:H a=some (.dK kvs))(hl:kvs.length<sizeLine):DPut H a (kV k) v (upd H a (.dK (putK kvs k v))):=.inl ⟨kvs,k,e,rfl,hl,rfl⟩
theorem DPut.t {H:Hp}{a b:Addr}{kvs:List (List Key×V)}{k:List Key}{v:V}(e:H a=some (.dT kvs))(eb:H b=some (.tup (k.map kV)))(hl:kvs.length<sizeLine) :
  DPut H a (.ref b) v (upd H a (.dT (putK kvs k v))):=.inr ⟨kvs,k,b,e,rfl,eb,hl,rfl⟩
section
variable {X:Cx} {pins:List (Addr×Obj)} {σ:St} {H:Hp} {s:Shared} {a:Addr} {y v:V} {u r:Value} {o:Option V} {A:Around} {E:Value->Shared->Prop}
theorem Inv.big (I:Inv X pins σ H s):sysModules<s.heap.objs.size:=by
 have h:mainGlobals<s.heap.objs.size:=(I.mod.glob.keeps I.bk).lt
 exact Nat.lt_trans (by decide) h
theorem d_in {Q:Value->Shared->Prop}(hu:A.units+1<cLine)(I:Inv X pins σ H s)(g:DGet H a y o)(ry:RelV y u)(h:∀s',Inv X pins σ H s'->Q (.bool o.isSome) s') :
  wpAny (model X.prog X.w) A (compareOp .In u (.ref a)) Q E s:=by
 rcases g with⟨kvs,k,e,ey,l⟩|⟨kvs,k,b,e,ey,eb,l⟩
 ·subst ey
  obtain⟨z,hd,vs,rel,dd⟩:=dk_rd I.hok e
  refine wpAny_in_of (kV_is ry) hd dd.mapOf ?_
  rw[<-(rel.val k).isSome_eq,<-l]
  exact h _ (I.tok _)
 ·subst ey
  cases (show u=Value.ref b from ry)
  obtain⟨z,hd,xs,rel,dd⟩:=dt_rd I.hok e
  refine wpAny_in_heap (tupleKind_room_in1 hu) (key_of I.hok eb) hd dd ?_
  have q:=(rel.val k).isSome_eq
  rw[Option.isSome_map] at q
  rw[<-q,<-l]
  exact h _ (I.tok _)
theorem d_write {h':Heap}{t':Nat}{ob:HO}(I:Inv X pins σ H s)(mu:Mut (H a))(hs:Heap.SameBut a s.heap h')(he:∃q,h'.get? a=some q)(new:ObjOk X.prog X.w (upd H a ob) h' a ob) :
  Inv X pins σ (upd H a ob) { s with heap:=h',toks:=t' } :=
 I.write (x:=a) (e:=a) mu (.inl rfl) (fun b q hb z=>(hs.2 b hb).trans z) he new
theorem dk_new {P:Program}{w:World}{H':Hp}{h':Heap}{kvs:List (Key×V)}{vs:List (Key×Value)}(z:kvs.length<=sizeLine)(hd:(a==sysModules)=false)(rel:KV kvs vs)(dd:h'.DictOf (Ya P w) a vs) :
  ObjOk P w H' h' a (.dK kvs):=⟨z,hd,vs,rel,dd⟩
theorem d_setItem {H':Hp}{Q:Unit->Shared->Prop}(hu:A.units+1<cLine)(I:Inv X pins σ H s)(g:DPut H a y v H')(ry:RelV y u)(rv:RelV v r)(h:∀s',Inv X pins σ H' s'->Q () s') :
  wpAny (model X.prog X.w) A (setItem (.ref a) u r) Q E s:=by
 rcases g with⟨kvs,k,e,ey,l,eH⟩|⟨kvs,k,b,e,ey,eb,l,eH⟩
 ·subst ey eH
  obtain⟨z,hd,vs,rel,dd⟩:=dk_of I.hok e
  have hz:vs.length<=sizeLine:=by rw[<-rel.length];exact z
  have hl:(putK kvs k v).length<=sizeLine:=by have:=length_putK kvs k v;omega
  refine wpAny_setItem_pairs (hsz:=hz) (kV_is ry) dd fun h' dd' hs=>h _ ?_
  have he:∃q,h'.get? a=some q:=let ⟨q,_,_,hq,_⟩:=dd';⟨q,hq⟩
  exact d_write I (by rw[e];exact True.intro) hs he (dk_new hl hd (rel.put k rv) dd')
 ·subst ey eH
  cases (show u=Value.ref b from ry)
  obtain⟨z,hd,xs,rel,dd⟩:=dt_of I.hok e
  have hz:xs.length<=sizeLine:=by rw[<-Paired.length rel];exact z
  have hl:(putK kvs k v).length<=sizeLine:=by have:=length_putK kvs k v;omega
  refine wpAny_setItem_heap (hsz:=hz) (tupleKind_room_in1 hu) (key_of I.hok eb) dd fun h' dd' hs=>h _ ?_
  obtain⟨q,es,ep,hq,h2,h3,h4,_,h5⟩:=dd'
  refine d_write I (by rw[e];exact True.intro) hs ⟨q,hq⟩ ⟨hl,hd,_,(rel.put k eb rv).keeps fun c ys ec=>?_,q,es,ep,hq,h2,h3,h4,h5⟩
  rw[Zn (ne_of ec e (fun z=>nomatch z))]
  exact ec
end
section
variable {X:Cx} {pins:List (Addr×Obj)} {σ:St} {H:Hp} {s:Shared} {a:Addr} {kvs:List (Key×V)} {k:Key} {u:Value} {A:Around} {E:Value->Shared->Prop}
end
def tDIn (ty td:TE):TE:=fun σ H Q=>ty σ H fun y H1=>td σ H1 fun x H2=>∃a o,x=.ref a/\DGet H2 a y o/\Q (.bl o.isSome) H2
def sDPut (td ty tv:TE):TS:=fun D σ H=>tv σ H fun v H1=>td σ H1 fun x H2=>ty σ H2 fun y H3=>∃a H4,x=.ref a/\DPut H3 a y v H4/\D.nx σ H4
section
variable {X:Cx} {o i e value:Expr} {pos pos' tpos:Pos} {td ty tv:TE}
theorem pc_din (hu:X.A.units+1<cLine)(hi:PE X i ty)(ho:PE X o td):PC X .In i o (tDIn ty td):=by
 intro pins s σ H Q I h
 refine thn (hi pins s σ H _ I h) fun iv s1 ⟨y,H1,I1,ry,q1⟩=>thn (ho pins s1 σ H1 _ I1 q1) fun u s2 ⟨x,H2,I2,rx,a,ov,ex,g,q2⟩=>?_
 subst ex
 obtain rfl:u=Value.ref a:=rx
 exact d_in hu I2 g ry fun s3 I3=>⟨.bl ov.isSome,H2,I3,rfl,q2⟩
theorem ps_dput (hu:X.A.units+1<cLine)(ho:PE X o td)(hi:PE X i ty)(hv:PE X value tv)(hs:swapsWith value (some (.Subscript o i pos')) pos.line X.env=pure false) :
  PS X (.Assign [.Subscript o i pos'] value pos) (sDPut td ty tv):=by
 intro pins s σ H D I h
 refine wpAny_Assign_Subscript (thn (hv pins s σ H _ I h) fun r s1 ⟨v,H1,I1,rv,q1⟩=>thn (ho pins s1 σ H1 _ I1 q1) fun u s2 ⟨x,H2,I2,rx,q2⟩=>thn (hi pins s2 σ H2 _ I2 q2) fun iv s3 ⟨y,H3,I3,ry,a,H4,ex,g,q3⟩=>?_) hs
 subst ex
 obtain rfl:u=Value.ref a:=rx
 exact d_setItem hu I3 g ry rv fun s4 I4=>⟨σ,H4,I4,q3⟩
end
theorem dk_empty {P:Program}{w:World}{H:Hp}(h:Heap)(hb:sysModules<h.objs.size):ObjOk P w H (h.push { cls:=.type "dict", data:=.dict #[] }) h.objs.size (.dK []) :=
 ⟨Nat.zero_le _,beq_eq_false_iff_ne.mpr (Ne.symm (Nat.ne_of_lt hb)),[],.nil,Heap.DictOf.new h⟩
theorem dt_empty {P:Program}{w:World}{H:Hp}(h:Heap)(hb:sysModules<h.objs.size):ObjOk P w H (h.push { cls:=.type "dict", data:=.dict #[] }) h.objs.size (.dT []) :=
 ⟨Nat.zero_le _,beq_eq_false_iff_ne.mpr (Ne.symm (Nat.ne_of_lt hb)),[],.nil,_,#[],0,Heap.get?_push_size _ rfl,⟨rfl,rfl,rfl⟩,rfl,rfl,List.nodup_nil⟩
def tDNewK:TE:=fun _ H Q=>∀p,H p=none->Q (.ref p) (upd H p (.dK []))
def tDNewT:TE:=fun _ H Q=>∀p,H p=none->Q (.ref p) (upd H p (.dT []))
section
variable {X:Cx} {pos:Pos}
theorem pe_dnewK:PE X (.Dict [] [] pos) tDNewK:=fun pins s σ H Q I h =>
 wpAny_Dict_empty ⟨.ref s.heap.objs.size,_,I.laid (a:=s.heap.objs.size) (o:=.dK []) (t':=s.toks) (fun _ _ q=>Heap.get?_push_of_some _ q) (Nat.le_refl _) (dk_empty s.heap I.big),rfl,h _ (I.hok.fresh (Nat.le_refl _))⟩
theorem pe_dnewT:PE X (.Dict [] [] pos) tDNewT:=fun pins s σ H Q I h =>
 wpAny_Dict_empty ⟨.ref s.heap.objs.size,_,I.laid (a:=s.heap.objs.size) (o:=.dT []) (t':=s.toks) (fun _ _ q=>Heap.get?_push_of_some _ q) (Nat.le_refl _) (dt_empty s.heap I.big),rfl,h _ (I.hok.fresh (Nat.le_refl _))⟩
end
structure M1 (X:Cx) (o:Expr) (m:Str) (apos:Pos) (e:Expr) (cpos:Pos):Prop where
 base:attributeBase o m X.env (eval o X.env)=eval o X.env
 few:((backTo cpos (starEach [e] X.env)).all (fun x=>!x.1)&&(backToKw cpos (keywordEach [] X.env)).all (fun x=>x.1.isSome)
  && decide (([e]:List Expr).length+([]:List Keyword).length+(if([]:List Keyword).isEmpty then 0 else 1)<30))=true
 line:(apos.endLine==cpos.line)=true
 trees:backTo cpos (starEach [e] X.env)=[(false,eval e X.env)]
structure M2 (X:Cx) (o:Expr) (m:Str) (apos:Pos) (e f:Expr) (cpos:Pos):Prop where
 base:attributeBase o m X.env (eval o X.env)=eval o X.env
 few:((backTo cpos (starEach [e,f] X.env)).all (fun x=>!x.1)&&(backToKw cpos (keywordEach [] X.env)).all (fun x=>x.1.isSome)
  && decide (([e,f]:List Expr).length+([]:List Keyword).length+(if([]:List Keyword).isEmpty then 0 else 1)<30))=true
 line:(apos.endLine==cpos.line)=true
 trees:backTo cpos (starEach [e,f] X.env)=[(false,eval e X.env),(false,eval f X.env)]
def IsD (H:Hp)(a:Addr):Prop:=(∃kvs,Rd H a (.dK kvs))\/∃kvs,Rd H a (.dT kvs)
theorem isD_at {X:Cx}{pins:List (Addr×Obj)}{σ:St}{H:Hp}{s:Shared}{a:Addr}(I:Inv X pins σ H s)(d:IsD H a) :
  s.TypeIs (.ref a) "dict"/\(∀b,Value.ref a=.ref b->∃ob,s.heap.get? b=some ob/\ob.dict=none)/\(a==sysModules)=false:=by
 rcases d with⟨kvs,e⟩|⟨kvs,e⟩
 ·obtain⟨_,hd,vs,_,dd⟩:=dk_rd I.hok e
  refine⟨dd.typeIs,fun b q=>?_,hd⟩
  cases q
  obtain⟨ob,_,_,h1,h2,_⟩:=dd
  exact⟨ob,h1,h2.2.1⟩
 ·obtain⟨_,hd,xs,_,dd⟩:=dt_rd I.hok e
  refine⟨dd.typeIs,fun b q=>?_,hd⟩
  cases q
  obtain⟨ob,_,_,h1,h2,_⟩:=dd
  exact⟨ob,h1,h2.2.1⟩
section
variable {X:Cx} {pins:List (Addr×Obj)} {σ:St} {H:Hp} {s:Shared} {a:Addr} {y d:V} {u r:Value} {o:Option V} {A:Around} {E:Value->Shared->Prop}
theorem d_get2 {Q:Value->Shared->Prop}(hu:A.units+1<cLine)(I:Inv X pins σ H s)(g:DGet H a y o)(ry:RelV y u)(rd:RelV d r)(h:∀w' s',Inv X pins σ H s'->RelV (o.getD d) w'->Q w' s') :
  wpAny (model X.prog X.w) A (call (.builtin "dict.get") [.ref a,u,r]) Q E s:=by
 rcases g with⟨kvs,k,e,ey,l⟩|⟨kvs,k,b,e,ey,eb,l⟩
 ·subst ey
  obtain⟨z,hd,vs,rel,dd⟩:=dk_rd I.hok e
  refine call_meetsIn PySem.F.slot_dict_get dd.typeIs PySem.F.entry_dict_get (PySem.F.args_dict_get_3 _ _ _) (meets_dict_get_default (Ya X.prog X.w) a (kV_is ry) hd r) ⟨_,dd.mapOf,h _ _ (I.tok _) ?_⟩
  rw[l]
  exact(rel.val k).getD rd
 ·subst ey
  cases (show u=Value.ref b from ry)
  obtain⟨z,hd,xs,rel,dd⟩:=dt_rd I.hok e
  refine call_meetsIn PySem.F.slot_dict_get dd.typeIs PySem.F.entry_dict_get (PySem.F.args_dict_get_3 _ _ _) (meetsH_dict_get_default (tupleKind (Ya X.prog X.w)) a b hd r) ⟨tupleKind_room_in1 hu,k,xs,key_of I.hok eb,dd,h _ _ (I.tok _) ?_⟩
  rw[l]
  exact(rel.val k).getD rd
end
def tDGet2 (td ty tx:TE):TE:=fun σ H Q=>td σ H fun x H1=>∃a,x=.ref a/\IsD H1 a/\ty σ H1 fun y H2=>tx σ H2 fun z H3=>∃o,DGet H3 a y o/\Q (o.getD z) H3
section
variable {X:Cx} {o e f:Expr} {apos cpos:Pos} {td ty tx:TE}
theorem pe_dget2 (hu:X.A.units+1<cLine)(ho:PE X o td)(he:PE X e ty)(hf:PE X f tx) (m:M2 X o "get" apos e f cpos):PE X (.Call (.Attribute o "get" apos) [e,f] [] cpos) (tDGet2 td ty tx):=by
 intro pins s σ H Q I h
 refine wpAny_Call_method m.base m.few m.line PySem.F.plainAttrs_dict PySem.F.slot_dict_get PySem.F.type_dict_get (thn (ho pins s σ H _ I h) fun u s1 ⟨x,H1,I1,rx,a,ex,d,q1⟩=>?_)
 subst ex
 obtain rfl:u=Value.ref a:=rx
 obtain⟨t1,t2,_⟩:=isD_at I1 d
 refine⟨t1,t2,?_⟩
 rw[m.trees]
 refine Calls.callWith_builtin rfl (Calls.evalArgs_plain (Calls.spliced_cons (thn (he pins s1 σ H1 _ I1 q1) fun iv s2 ⟨y,H2,I2,ry,q2⟩ =>
  Calls.spliced_cons (thn (hf pins s2 σ H2 _ I2 q2) fun fv s3 ⟨z,H3,I3,rz,ov,g,q3⟩=>Calls.spliced_nil ?_))))
 exact d_get2 hu I3 g ry rz fun w' s4 I4 rw'=>⟨_,H3,I4,rw',q3⟩
end
section
variable {X:Cx} {pins:List (Addr×Obj)} {σ:St} {H:Hp} {s:Shared} {a:Addr} {kvs:List (Key×V)} {A:Around} {E:Value->Shared->Prop}
end
section
variable {X:Cx} {pins:List (Addr×Obj)} {σ:St} {H:Hp} {s:Shared} {a:Addr} {y:V} {u:Value} {A:Around} {E:Value->Shared->Prop}
end
end L2
namespace Att
open PySem PySem.W PySem.Calls PyProof.Rows
theorem ints_of_wellAll {P:Params}{h:Heap}:∀(ns:List Int) (vs:List Value),WellAll P h vs (ns.map WData.int)->IntsAre vs ns:=by
 intro ns
 induction ns with
 |nil =>
  intro vs w
  rw[List.map_nil] at w
  cases w
  exact .nil
 |cons n ns ih =>
  intro vs w
  rw[List.map_cons] at w
  cases w with
  |cons a b =>
   cases a
   exact .cons _ _ (ih _ b)
theorem script_of {l:OpenLaw}{n:Nat}(hn:l.most=some n){P:Params}{h:Heap}{args:List WData}{vals:List Value}(hpre:l.row.toRowW.claim.pre args=true)(hwl:WellAll P h vals args) :
  ∃a vs ns,vals=[Value.ref a]/\args=[WData.list (ns.map WData.int)]/\h.get? a=some { cls:=.type "list", data:=.seq vs.toArray }/\IntsAre vs ns/\ns.length<=n:=by
 have hsh:WShape.hasAll [] args [.list .int]=true:=(pre_splitW hpre).1
 have hc:l.pre.holds [] { args:=args }=true:=(pre_splitW hpre).2
 obtain⟨d,r,rfl,h1,h2⟩:=hasAllW_cons hsh
 obtain rfl:=hasAllW_nil h2
 obtain⟨xs,rfl,h3⟩:=hasW_list h1
 obtain⟨ns,rfl⟩:=items_int h3
 have hlen:ns.length<=n:=by
  unfold OpenLaw.pre at hc
  have h4:(WTm.not (.lt (.lit (.int (n:Int))) (.len (.arg 0)))).holds [] { args:=[.list (ns.map .int)] }=true:=by
   have h4:=(holds_andW hc).1
   rw[hn] at h4
   exact h4
  have h5:=condW_of h4 (w_not (w_lt w_lit (w_len_list (w_arg rfl))))
  rw[List.length_map] at h5
  refine Nat.le_of_not_lt fun q=>?_
  have q':(n:Int)<((ns.length:Nat):Int):=by omega
  first
   |(rw[decide_eq_true q'] at h5;exact absurd h5 (by decide))
   |(simp at h5;omega)
 cases hwl with
 |cons w1 w2 =>
  cases w2
  cases w1 with
  |list ho hall=>exact⟨_,_,ns,rfl,rfl,ho,ints_of_wellAll ns _ hall,hlen⟩
theorem post_true (l:OpenLaw)(args:List WData):l.row.toRowW.claim.post args (.bool true) args=true :=
 postW_of (r:=l.row.toRowW) (X:=(true==true))
  (show WShape.has [] (.bool true) .bool=true by first|rfl|decide|simp[WShape.has,WShape.arms,WShape.armsAll])
  (show(WTm.eq .res (.lit (.bool true))).value [] { args:=args,res:=some (.bool true),after:=args }=some (.bool (true==true)) from w_eq_bool (w_res rfl) w_lit) rfl
theorem attach_call {l:OpenLaw}{n:Nat}{q:Program}{loose:List Str}{XP:(Str->Option Value)->Heap->Prop}{YP:World->Heap->Prop}{d:DefRec}(hn:l.most=some n)(hdf:d.params.defaults=[])
  (call:∀(w:World) (s₀ s₁:Shared) (mg mb:Str->Option Value) (fa:Addr) (o:Obj) (pm cd doc:Value) (a:Addr) (vs:List Value) (ns:List Int),
   Ground q loose [] XP w s₀ mg mb s₁.heap->YP w s₁.heap ->
   s₁.heap.get? fa=some o->o.data=.func (docDef d.name d.params d.body d.scope pm cd doc)->s₁.heap.CodeRec cd d.name->mg d.name=some (.ref fa) ->
   s₁.heap.get? a=some { cls:=.type "list", data:=.seq vs.toArray }->IntsAre vs ns->ns.length<=n->s₁.gens=#[] ->
   codeAny (model l.prog w) callerA (.call (.ref fa) ⟨[.ref a],[]⟩) (fun r s'=>r=.ok (.ret (.bool true))/\OldK s₁.heap s'.heap/\s'.os=s₁.os/\AllBare s'.gens) s₁) :
  WalkO q loose XP YP l.row.toRowW d [] (fun f vs=>PySem.call f vs):=by
 intro w s₀ s₁ mg mb G Y fa o pm cd doc dV kV ho hd hcd hD hmg hg args vals as hpre hlay hrd hwl hlo
 obtain rfl:dV=.none:=Dflts.none hD hdf
 obtain rfl:kV=.none:=Dflts.noKw hD
 obtain⟨a,vs,ns,rfl,rfl,hobj,hints,hlen⟩:=script_of hn hpre hwl
 refine enter_call (codeAny_mono (call w s₀ s₁ mg mb fa o pm cd doc a vs ns G Y ho (fd_plain hd) hcd hmg hobj hints hlen hg) fun r s' hq=>?_)
 obtain⟨rfl,h2,h3,h4⟩:=hq
 exact⟨.inl ⟨.bool true,.bool true,[],rfl,fun _=>rfl,.bool true,post_true l _,fun _=>⟨List.Pairwise.nil,fun _ hm=>(nomatch hm)⟩⟩,h2,h3,h4⟩
section
variable {prog:Program} {w:World} {A:Around} {E:Value->Shared->Prop} {s:Shared} {K:Frag}
def ledger (h:Heap)(L d:Addr):List (Addr×Obj):=(List.range h.objs.size).filterMap fun a=>if a=L\/a=d then none else(h.get? a).map fun o=>(a,o)
end
end Att
namespace L2
open PySem PySem.Spec PyProof.Rows
theorem vals_ints:∀{vs:List Value} {ns:List Int},IntsAre vs ns->Vals (ns.map V.int) vs
 |_,_,.nil=>.nil
 |_,_,.cons n t h=>.cons ⟨t,rfl⟩ (vals_ints h)
def Only (H:Hp):Prop:=∀b,H b=none\/∃o xs,H b=some (.frz o (.lst xs))
theorem law_call {P:Program}{w:World}{K:PySem.W.Frag}{mg mb:Str->Option Value}{CX:CXT}{k:Nat}{fa a:Addr}{fd:FuncData}{x:Str}{sp:Sp}{s₁:Shared}{vs:List Value}{ns:List Int}(KX:K.In s₁.heap)(hns:s₁.heap.Ns mainGlobals mg)(hb:s₁.heap.Ns builtinsNs mb) (hbb:∀x:Str,x ≠ "__name__"->mb x=bootBuiltins x) (hlim:s₁.heap.NoLimit) (hg:s₁.gens=#[])
  (ha:s₁.heap.get? a=some { cls:=.type "list", data:=.seq vs.toArray }) (hi:IntsAre vs ns) (hl:ns.length<=sizeLine) (hr:Room k callerA)
  (F:∀base:Heap,K.In base->base.Ns mainGlobals mg->FnOk P w K mg base CX k fa fd [x] sp) (hbind:∀(s:Shared) (u:Value),BindsTo s fd ⟨[u],[]⟩ [(x,u)])
  (hsp:∀H:Hp,Only H->SqL K H a (ns.map V.int)->sp [.ref a] H (fun v _=>v=.bl true) fun _ _ _=>False)
  (hCX:∀H e s',CX [] H s₁ (fun _ _ _=>False) e s'->False) :
  codeAny (model P w) callerA (.call (.ref fa) ⟨[.ref a],[]⟩) (fun r s'=>r=.ok (.ret (.bool true))/\OldK s₁.heap s'.heap/\s'.os=s₁.os/\AllBare s'.gens) s₁:=by
 have rv:=vals_ints hi
 have lenV:=hi.length
 have core:∀H:Hp,Only H->SqL K H a (ns.map V.int)->HOk P w H s₁.heap->(∀b,H b≠none->b=a)->(H a≠none->K.lookup a=none) ->
   codeAny (model P w) callerA (.call (.ref fa) ⟨[.ref a],[]⟩) (fun r s'=>r=.ok (.ret (.bool true))/\OldK s₁.heap s'.heap/\s'.os=s₁.os/\AllBare s'.gens) s₁:=by
  intro H hO hS hok hA hK
  have base_of:∀{b:Addr} {o:Obj},s₁.heap.get? b=some o->H b=none->(hidT s₁.heap H).get? b=some o:=fun e n=>hidT_get e n
  have noA:∀{b:Addr} {o:Obj} {es:Array DictEntry} {ep:Nat},s₁.heap.get? b=some o->o.data=.dict es ep->H b=none:=fun {b o es ep} e d=>by
   cases q:H b with
   |none=>rfl
   |some u =>
    have e':b=a:=hA b (by rw[q];simp)
    subst e'
    rw[ha] at e;cases e
    have d':Data.seq vs.toArray _=Data.dict es ep:=d
    cases d'
  have nsK:∀{b:Addr} {m:Str->Option Value},s₁.heap.Ns b m->(hidT s₁.heap H).Ns b m:=fun {b m} ⟨o,es,ep,e,d,r⟩=>⟨o,es,ep,base_of e (noA e d),d,r⟩
  have hKb:K.In (hidT s₁.heap H):=fun b o e=>base_of (KX b o e) (by
   cases q:H b with
   |none=>rfl
   |some u =>
    have e':b=a:=hA b (by rw[q];simp)
    subst e'
    rw[hK (by rw[q];simp)] at e;cases e)
  have hM:Mod K mg (hidT s₁.heap H):=⟨hKb,nsK hns,⟨mb,nsK hb,hbb⟩,let ⟨mc,h1,h2⟩:=hlim;⟨mc,nsK h1,h2⟩⟩
  have e0:Env0 P w K mg (hidT s₁.heap H) callerA [] s₁ H:=⟨rfl,hM,fun b o e=>of_hidT e,Nat.le_of_eq (hidT_size _ _),trivial,fun b hb=>absurd (show b∈([]:List Addr) from hb) (by simp),hok,.of_eq hg⟩
  refine codeAny_mono ((F _ hKb (nsK hns)).run callerA [] s₁ H ⟨[.ref a],[]⟩ [.ref a] [.ref a] _ _ hr e0 (hbind s₁ (.ref a)) (.cons rfl .nil) (hsp H hO hS)) fun r s' h=>?_
  cases r with
  |error e=>exact(hCX H e s' h).elim
  |ok fl =>
   cases fl with
   |next=>exact False.elim h
   |brk=>exact False.elim h
   |cont=>exact False.elim h
   |ret u =>
    obtain⟨v,H',os,bare,un,hok',r',q⟩:=h
    have q':v=.bl true:=q
    subst q'
    obtain rfl:u=Value.bool true:=r'
    refine⟨rfl,OldK.of_keep fun b o e=>?_,os,bare⟩
    cases q:H b with
    |none=>exact un.keep b o e q (by intro z;exact absurd (show b∈([]:List Addr) from z) (by simp)) (by simp)
    |some u =>
     rcases hO b with z|⟨ob,xs,z⟩
     ·rw[q] at z;cases z
     ·have z2:=un.frzs b ob _ z
      obtain⟨e1,_⟩:=hok b _ z
      obtain⟨e2,_⟩:=hok' b _ z2
      rw[e] at e1;cases e1
      exact e2
 cases hk:K.lookup a with
 |some o =>
  have e:=KX a o hk
  rw[ha] at e
  cases e
  refine core (fun _=>none) (fun _=>.inl rfl) (.inr ⟨_,vs.toArray,_,hk,rfl,rfl,rfl,by rw[List.size_toArray,lenV];exact hl,by simpa using rv⟩) (fun b u z=>by have z':(none:Option HO)=some u:=z;cases z') (fun b z=>absurd rfl z) fun z=>absurd rfl z
 |none =>
  refine core (fun b=>if b=a then some (.frz { cls:=.type "list", data:=.seq vs.toArray } (.lst (ns.map V.int))) else none) (fun b=>?_) (.inl (.inr ⟨{ cls:=.type "list", data:=.seq vs.toArray },if_pos rfl⟩)) (fun b u z=>?_) (fun b z=>?_) fun _=>hk
  ·by_cases hb:b=a
   ·exact .inr ⟨_,_,if_pos hb⟩
   ·exact .inl (if_neg hb)
  ·by_cases hb:b=a
   ·have z':=(if_pos hb).symm.trans z
    cases z'
    subst hb
    exact⟨ha,by rw[List.length_map];exact hl,vs,_,rv,ha⟩
   ·have z':=(if_neg hb).symm.trans z
    cases z'
  ·by_cases hb:b=a
   ·exact hb
   ·exact absurd (if_neg hb) z
end L2
namespace L2
open PySem PySem.Spec PyProof.Rows
abbrev KOf {K:PySem.W.Frag}{h:Heap}(_:K.In h):PySem.W.Frag:=K
theorem walk_of {l:PySem.W.OpenLaw}{n k:Nat}{q:Program}{loose:List Str}{XP:(Str->Option Value)->Heap->Prop}{YP:World->Heap->Prop}{d:DefRec}{K:Params->PySem.W.Frag}{CX:World->CXT}{sp:World->Sp}{x:Str}(hn:l.most=some n)(hn2:n<=sizeLine)(hdf:d.params.defaults=[])(hr:Room k callerA)(hY:∀(w:World) (h:Heap),YP w h->(K w.params).In h)(F:∀(w:World) (mg:Str->Option Value) (fa:Addr) (h:Heap),(K w.params).In h->h.Ns mainGlobals mg->mg d.name=some (.ref fa) ->
   ∃fd:FuncData,(∀(s:Shared) (u:Value),BindsTo s fd ⟨[u],[]⟩ [(x,u)]) /\
    ∀base:Heap,(K w.params).In base->base.Ns mainGlobals mg->FnOk l.prog w (K w.params) mg base (CX w) k fa fd [x] (sp w))(hsp:∀(w:World) (H:Hp) (a:Addr) (ns:List Int),ns.length<=n->Only H->SqL (K w.params) H a (ns.map V.int)->sp w [.ref a] H (fun v _=>v=.bl true) fun _ _ _=>False)(hCX:∀(w:World) (H:Hp) (s:Shared) (e:Value) (s':Shared),CX w [] H s (fun _ _ _=>False) e s'->False) :
  PySem.W.WalkO q loose XP YP l.row.toRowW d [] (fun f vs=>PySem.call f vs):=by
 refine Att.attach_call hn hdf fun w s₀ s₁ mg mb fa o pm cd doc a vs ns G Y ho hd hcd hmg hobj hints hlen hg=>?_
 have KX:=hY w _ Y
 obtain⟨fd,hb,hF⟩:=F w mg fa _ KX G.T.g hmg
 exact law_call KX G.T.g G.T.b G.T.builtins G.T.nolimit hg hobj hints (Nat.le_trans hlen hn2) hr hF hb (fun H hO hS=>hsp w H a ns hlen hO hS) fun H e s'=>hCX w H s₁ e s'
end L2
namespace L2
open PySem PySem.Spec PyProof.Rows
def Z5 (s:Stmt):Arguments:=match s with
 |.FunctionDef _ a _ _ _ _ _ _ _ _=>a
 |_=>{ posonlyargs:=[],args:=[],vararg:=none,kwonlyargs:=[],kw_defaults:=[],kwarg:=none,defaults:=[] }
def Zz (s:Stmt):List Stmt:=match s with
 |.FunctionDef _ _ b _ _ _ _ _ _ _=>b
 |_=>[]
def Zh (s:Stmt):Scope:=match s with
 |.FunctionDef _ _ _ _ _ _ sc _ _ _=>sc
 |_=>{ kind:=.function,names:=[],isGenerator:=false,isCoroutine:=false }
abbrev CX0:CXT:=fun _ _ _ _ _ _=>False
abbrev E0:XK:=fun _ _ _=>False
theorem pass0 {X:Cx}:Passes CX0 X E0:=fun _ _ _ _ _ _ _ h=>h.elim
structure Fun (K:PySem.W.Frag) (x qual:Str) (st:Stmt) (f:Addr) (fd:FuncData):Prop where
 ex:∃(oc:Value) (od:Option Addr) (kV doc pm:Value) (an:Option Addr) (cdv ct:Value) (osl:Array (Option Value)),
  fd=PySem.W.fnOf x qual (Z5 st) (Zz st) (Zh st) .none kV doc pm an cdv ct/\K.lookup f=some ⟨oc,od,.func fd,osl⟩/\PySem.W.codeIn K cdv qual=true
 kp:PySem.W.keepIn K (.ref f)=true
section
variable {P:Program} {w:World} {K:PySem.W.Frag} {mg:Str->Option Value} {base:Heap}
theorem Fun.ok {x qual:Str}{st:Stmt}{f:Addr}{fd:FuncData}{N ps:List Str}{k:Nat}{sp:Sp}(F:Fun K x qual st f fd)(S:FnScope N ps (Zh st))(len:∀vs H Q E,sp vs H Q E->vs.length=ps.length)(hbody:∀(cdv:Value) (A:Around) (outer:List Env) (s:Shared) (H:Hp) (vs:List V) (Q:VK) (E:XK),Room k (A.deeper (envOfC qual (Zh st) s.heap.objs.size f cdv))->sp vs H Q E ->
   ∃t,PSs (cxOf CX0 P w K mg base N qual (Zh st) f cdv A outer s H E).nox (Zz st) t/\t { nx:=fun _ H'=>Q .non H',rt:=Q } (Yy N vs) H):FnOk P w K mg base CX0 (k+1) f fd ps sp:=by
 obtain⟨oc,od,kV,doc,pm,an,cdv,ct,osl,rfl,lk,hcd⟩:=F.ex
 refine fn_of lk hcd S len fun A outer s H vs Q E hr hsp=>?_
 obtain⟨t,h,q⟩:=hbody cdv A outer s H vs Q E hr hsp
 exact⟨t,h.nox,q⟩
theorem Fun.binds {x qual:Str}{st:Stmt}{f:Addr}{fd:FuncData}{ps:List Str}(F:Fun K x qual st f fd)(h:∀(kV doc pm:Value) (an:Option Addr) (cdv ct:Value) (us:List Value),us.length=ps.length->bindArgs (PySem.W.fnOf x qual (Z5 st) (Zz st) (Zh st) .none kV doc pm an cdv ct) ⟨us,[]⟩=pure (ps.zip us)):Binds K fd ps []:=by
 obtain⟨oc,od,kV,doc,pm,an,cdv,ct,osl,rfl,lk,hcd⟩:=F.ex
 exact .all (h kV doc pm an cdv ct)
theorem Qr {x qual:Str}{st:Stmt}{f:Addr}{oc:Value}{od an:Option Addr}{osl:Array (Option Value)}{kV doc pm cdv ct:Value}(l:K.lookup f=some ⟨oc,od,.func (PySem.W.fnOf x qual (Z5 st) (Zz st) (Zh st) .none kV doc pm an cdv ct),osl⟩)(c:PySem.W.codeIn K cdv qual=true)(k:PySem.W.keepIn K (.ref f)=true):Fun K x qual st f (PySem.W.fnOf x qual (Z5 st) (Zz st) (Zh st) .none kV doc pm an cdv ct):=⟨⟨oc,od,kV,doc,pm,an,cdv,ct,osl,rfl,l,c⟩,k⟩
end
section
variable {X:Cx}
theorem pv (i:Nat){x:Str}{pos:Pos}(hN:X.N[i]?=some x:=by rfl)(hv:Vis X.env.scope x:=by first|exact Or.inl rfl|exact Or.inr (Or.inl rfl)|exact Or.inr (Or.inr rfl)) (hd:(x==("__debug__" : Str))=false:=by decide)
  (hcd:(x==("__classdict__" : Str))=false:=by decide):PE X (.Name x pos) (tVar i):=Ym hN hv hd hcd
end
def Same (H H':Hp):Prop:=∀b o,H b=some o->H' b=some o
theorem Same.refl (H:Hp):Same H H:=fun _ _ h=>h
theorem Same.trans {H H1 H2:Hp}(a:Same H H1)(b:Same H1 H2):Same H H2:=fun c o h=>b c o (a c o h)
theorem Same.free {H H':Hp}(e:Same H H'){l:Addr}(h:H' l=Option.none):H l=Option.none:=by
 cases q:H l with
 |none=>rfl
 |some o =>
  rw[e l o q] at h
  cases h
theorem Same.seq {K:PySem.W.Frag}{H H':Hp}{a:Addr}{xs:List V}(e:Same H H')(h:SqL K H a xs):SqL K H' a xs:=by
 rcases h with(h|⟨o,h⟩)|h
 ·exact .inl (.inl (e _ _ h))
 ·exact .inl (.inr ⟨o,e _ _ h⟩)
 ·exact .inr h
end L2
namespace L2
open PySem PySem.Spec PyProof.Rows
section
variable {X:Cx}
end
section
variable {κ:Type} [DecidableEq κ]
end
end L2
set_option maxHeartbeats 4000000
namespace DL
open PySem PySem.Spec PyProof.Rows L2
inductive D where
 |non|bl (b:Bool)|int (i:Int)|str (x:Str)|tup (ds:List D)|lst (ds:List D)
structure XV where
 cls:Str
 ns:List Str
 ds:List D
inductive M (α:Type) where
 |ok (a:α)|ex (x:XV)|bad
def M.bind {α β:Type}(r:M α)(k:α->M β):M β:=match r with
 |.ok a=>k a
 |.ex x=>.ex x
 |.bad=>.bad
@[simp] theorem M.bind_ok {α β:Type}(a:α)(k:α->M β):(M.ok a).bind k=k a:=rfl
@[simp] theorem M.bind_ex {α β:Type}(x:XV)(k:α->M β):(M.ex x:M α).bind k=.ex x:=rfl
@[simp] theorem M.bind_bad {α β:Type}(k:α->M β):(M.bad:M α).bind k=.bad:=rfl
inductive S where
 |im (d:D)|ow (ds:List D)|od (kvs:List (List Key×D))|dk (kvs:List (Key×D))|xc (x:XV)|fn (x:Str)
def S.own:S->Bool
 |.im _=>false
 |.xc _=>false
 |.fn _=>false
 |_=>true
abbrev DSt:=List (Option S)
section
variable (K:PySem.W.Frag) (H:Hp)
mutual
def Rep:D->V->Prop
 |.non,v=>v=.non
 |.bl b,v=>v=.bl b
 |.int i,v=>v=.int i
 |.str x,v=>v=.str x
 |.tup ds,v=>∃a xs,v=.ref a/\H a=some (.tup xs)/\Reps ds xs
 |.lst ds,v=>∃a xs,v=.ref a/\SqL K H a xs/\Reps ds xs
def Reps:List D->List V->Prop
 |[],xs=>xs=[]
 |d::ds,xs=>∃x r,xs=x::r/\Rep d x/\Reps ds r
end
end
def RepKV (K:PySem.W.Frag)(H:Hp){κ:Type}:List (κ×D)->List (κ×V)->Prop:=Paired fun p q=>p.1=q.1/\Rep K H p.2 q.2
def S.at (K:PySem.W.Frag)(Hf H:Hp)(p:Addr):S->Prop
 |.im _=>False
 |.xc _=>False
 |.fn _=>False
 |.ow ds=>∃xs,H p=some (.lst xs)/\Reps K Hf ds xs
 |.od kvs=>∃ys,H p=some (.dT ys)/\RepKV K Hf kvs ys
 |.dk kvs=>∃ys,H p=some (.dK ys)/\RepKV K Hf kvs ys
theorem _root_.L2.Same.seqT {K:PySem.W.Frag}{H H':Hp}{a:Addr}{xs:List V}(e:Same H H')(h:SqT K H a xs):SqT K H' a xs:=by
 rcases h with(h|⟨o,h⟩)|h
 ·exact .inl (.inl (e _ _ h))
 ·exact .inl (.inr ⟨o,e _ _ h⟩)
 ·exact .inr h
section
variable {K:PySem.W.Frag} {H H':Hp}
mutual
theorem Rep.mono (e:Same H H'):∀{d:D} {v:V},Rep K H d v->Rep K H' d v
 |.non,_,h=>by unfold Rep at h ⊢;exact h
 |.bl _,_,h=>by unfold Rep at h ⊢;exact h
 |.int _,_,h=>by unfold Rep at h ⊢;exact h
 |.str _,_,h=>by unfold Rep at h ⊢;exact h
 |.tup ds,_,h=>by
  unfold Rep at h ⊢
  obtain⟨a,xs,e1,e2,e3⟩:=h
  exact⟨a,xs,e1,e _ _ e2,Reps.mono e e3⟩
 |.lst ds,_,h=>by
  unfold Rep at h ⊢
  obtain⟨a,xs,e1,e2,e3⟩:=h
  exact⟨a,xs,e1,e.seq e2,Reps.mono e e3⟩
theorem Reps.mono (e:Same H H'):∀{ds:List D} {xs:List V},Reps K H ds xs->Reps K H' ds xs
 |[],_,h=>by unfold Reps at h ⊢;exact h
 |d::ds,_,h=>by
  unfold Reps at h ⊢
  obtain⟨x,r,e1,e2,e3⟩:=h
  exact⟨x,r,e1,Rep.mono e e2,Reps.mono e e3⟩
end
theorem rep_non {v:V}:Rep K H .non v↔v=.non:=by unfold Rep;exact Iff.rfl
theorem rep_bl {b:Bool}{v:V}:Rep K H (.bl b) v↔v=.bl b:=by unfold Rep;exact Iff.rfl
theorem rep_int {i:Int}{v:V}:Rep K H (.int i) v↔v=.int i:=by unfold Rep;exact Iff.rfl
theorem rep_str {x:Str}{v:V}:Rep K H (.str x) v↔v=.str x:=by unfold Rep;exact Iff.rfl
theorem rep_tup {ds:List D}{v:V}:Rep K H (.tup ds) v↔∃a xs,v=.ref a/\H a=some (.tup xs)/\Reps K H ds xs:=by rw[Rep]
theorem Z8 {ds:List D}{v:V}(h:Rep K H (.tup ds) v):∃a xs,v=.ref a/\SqT K H a xs/\Reps K H ds xs:=by
 obtain⟨a,xs,e1,e2,e3⟩:=rep_tup.mp h
 exact⟨a,xs,e1,SqT.of e2,e3⟩
theorem rep_lst {ds:List D}{v:V}:Rep K H (.lst ds) v↔∃a xs,v=.ref a/\SqL K H a xs/\Reps K H ds xs:=by rw[Rep]
theorem reps_nil {xs:List V}:Reps K H [] xs↔xs=[]:=by rw[Reps]
theorem reps_cons {d:D}{ds:List D}{xs:List V}:Reps K H (d::ds) xs↔∃x r,xs=x::r/\Rep K H d x/\Reps K H ds r:=by rw[Reps]
theorem Reps.nil:Reps K H [] []:=reps_nil.mpr rfl
theorem Reps.cons {d:D}{ds:List D}{x:V}{xs:List V}(h:Rep K H d x)(t:Reps K H ds xs):Reps K H (d::ds) (x::xs):=reps_cons.mpr ⟨x,xs,rfl,h,t⟩
theorem Reps.length:∀{ds:List D} {xs:List V},Reps K H ds xs->ds.length=xs.length
 |[],_,h=>by rw[reps_nil.mp h];rfl
 |d::ds,_,h=>by
  obtain⟨x,r,rfl,_,t⟩:=reps_cons.mp h
  rw[List.length_cons,List.length_cons,Reps.length t]
theorem Reps.get:∀{ds:List D} {xs:List V} {i:Nat} {d:D},Reps K H ds xs->ds[i]?=some d->∃x,xs[i]?=some x/\Rep K H d x
 |[],_,_,_,_,e=>by simp at e
 |_::ds,_,0,_,h,e=>by
  obtain⟨x,r,rfl,q,t⟩:=reps_cons.mp h
  simp at e;subst e;exact⟨x,rfl,q⟩
 |_::ds,_,i+1,_,h,e=>by
  obtain⟨x,r,rfl,q,t⟩:=reps_cons.mp h
  obtain⟨y,e1,e2⟩:=Reps.get (i:=i) t (by simpa using e)
  exact⟨y,by simpa using e1,e2⟩
theorem Reps.append:∀{ds es:List D} {xs ys:List V},Reps K H ds xs->Reps K H es ys->Reps K H (ds++es) (xs++ys)
 |[],_,_,_,h,t=>by rw[reps_nil.mp h];exact t
 |_::ds,_,_,_,h,t=>by
  obtain⟨x,r,rfl,q,u⟩:=reps_cons.mp h
  exact .cons q (Reps.append u t)
theorem Reps.take:∀{ds:List D} {xs:List V} (n:Nat),Reps K H ds xs->Reps K H (ds.take n) (xs.take n)
 |_,_,0,_=>by simpa using Reps.nil
 |[],_,n+1,h=>by rw[reps_nil.mp h];simpa using Reps.nil
 |_::ds,_,n+1,h=>by
  obtain⟨x,r,rfl,q,u⟩:=reps_cons.mp h
  exact .cons q (Reps.take n u)
theorem Reps.drop:∀{ds:List D} {xs:List V} (n:Nat),Reps K H ds xs->Reps K H (ds.drop n) (xs.drop n)
 |_,_,0,h=>by simpa using h
 |[],_,n+1,h=>by rw[reps_nil.mp h];simpa using Reps.nil
 |_::ds,_,n+1,h=>by
  obtain⟨x,r,rfl,q,u⟩:=reps_cons.mp h
  exact Reps.drop n u
theorem Reps.none_of {ds:List D}{xs:List V}{i:Nat}(h:Reps K H ds xs)(e:ds[i]?=none):xs[i]?=none:=by
 have:=h.length
 rw[List.getElem?_eq_none_iff] at e ⊢
 lia
end
theorem RepKV.mono {K:PySem.W.Frag}{H H':Hp}(e:Same H H'){κ:Type}{a:List (κ×D)}{b:List (κ×V)}(r:RepKV K H a b):RepKV K H' a b:=Paired.mapP r fun _ _ q=>⟨q.1,q.2.mono e⟩
theorem at_some {K:PySem.W.Frag}{Hf H:Hp}{p:Addr}{s:S}(h:S.at K Hf H p s):∃o,H p=some o:=by
 cases s with
 |im d=>exact h.elim
 |xc x=>exact h.elim
 |fn x=>exact h.elim
 |ow ds=>obtain⟨xs,e,_⟩:=h;exact⟨_,e⟩
 |od kvs=>obtain⟨ys,e,_⟩:=h;exact⟨_,e⟩
 |dk kvs=>obtain⟨ys,e,_⟩:=h;exact⟨_,e⟩
theorem at_move {K:PySem.W.Frag}{Hf Hf' H H':Hp}{p:Addr}{s:S}(h:S.at K Hf H p s)(e:Same Hf Hf')(q:∀o,H p=some o->H' p=some o):S.at K Hf' H' p s:=by
 cases s with
 |im d=>exact h.elim
 |xc x=>exact h.elim
 |fn x=>exact h.elim
 |ow ds=>obtain⟨xs,e1,e2⟩:=h;exact⟨xs,q _ e1,e2.mono e⟩
 |od kvs=>obtain⟨ys,e1,e2⟩:=h;exact⟨ys,q _ e1,e2.mono e⟩
 |dk kvs=>obtain⟨ys,e1,e2⟩:=h;exact⟨ys,q _ e1,e2.mono e⟩
def XO (a:Addr)(C:Addr)(dx:Option Addr):HO:=.ext fun h=>∃oe vs,h.get? a=some oe/\oe.cls=.ref C/\oe.dict=dx/\oe.data=.fields vs
def XF (Hf:Hp)(ns:List Str)(xs:List V):Option Addr->Prop
 |none=>ns=[]/\xs=[]
 |some dx=>Hf dx=some (.xd (ns.zip xs))/\ns.length=xs.length
theorem XF.mono {H H':Hp}(e:Same H H'){ns:List Str}{xs:List V}:∀{dx:Option Addr},XF H ns xs dx->XF H' ns xs dx
 |none,h=>h
 |some _,h=>⟨e _ _ h.1,h.2⟩
def RepE (K:PySem.W.Frag)(Hf:Hp)(x:XV)(v:V):Prop :=
 ∃a C dx xs,v=.ref a/\Hf a=some (XO a C dx)/\PySem.W.nsIn K mainGlobals x.cls=some (some (.ref C))/\XF Hf x.ns xs dx/\Reps K Hf x.ds xs
theorem RepE.mono {K:PySem.W.Frag}{H H':Hp}(e:Same H H'){x:XV}{v:V}(h:RepE K H x v):RepE K H' x v:=by
 obtain⟨a,C,dx,xs,e1,e2,e3,e4,e5⟩:=h
 exact⟨a,C,dx,xs,e1,e _ _ e2,e3,e4.mono e,e5.mono e⟩
def RepS (K:PySem.W.Frag)(Hf:Hp):S->V->Prop
 |.im d,v=>Rep K Hf d v
 |.xc x,v=>RepE K Hf x v
 |.fn x,v=>∃a,v=.ref a/\PySem.W.nsIn K mainGlobals x=some (some (.ref a))
 |_,_=>True
theorem RepS.mono {K:PySem.W.Frag}{H H':Hp}(e:Same H H'){t:S}{v:V}(h:RepS K H t v):RepS K H' t v:=by
 cases t with
 |im d=>exact Rep.mono e h
 |xc x=>exact RepE.mono e h
 |fn x=>exact h
 |_=>trivial
structure Gr (Hf H Hf' H':Hp):Prop where
 fz:Same Hf Hf'
 sub:Same Hf' H'
 all:Same H H'
 ban:∀a,H a≠none->Hf a=none->Hf' a=none
theorem Gr.refl {Hf H:Hp}(h:Same Hf H):Gr Hf H Hf H:=⟨Same.refl _,h,Same.refl _,fun _ _ e=>e⟩
theorem _root_.L2.Same.ne {H H':Hp}(e:Same H H'){a:Addr}(h:H a≠none):H' a≠none:=by
 cases q:H a with
 |none=>exact absurd q h
 |some o=>rw[e a o q];simp
theorem Gr.trans {Hf H Hf1 H1 Hf2 H2:Hp}(a:Gr Hf H Hf1 H1)(b:Gr Hf1 H1 Hf2 H2):Gr Hf H Hf2 H2 :=
 ⟨a.fz.trans b.fz,b.sub,a.all.trans b.all,fun c h e=>b.ban c (a.all.ne h) (a.ban c h e)⟩
theorem Z4 {H:Hp}{p:Addr}(h:H p=none)(o:HO):Same H (upd H p o):=fun b u q=>by rw[Zn (Zy q h)];exact q
theorem _root_.L2.Same.upd {Hf H:Hp}(e:Same Hf H)(p:Addr)(o:HO):Same (L2.upd Hf p o) (L2.upd H p o):=fun b u q=>by
 by_cases hb:b=p
 ·subst hb;rw[Zo] at q ⊢;exact q
 ·rw[Zn hb] at q ⊢;exact e b u q
theorem Gr.alloc {Hf H:Hp}(e:Same Hf H){p:Addr}(h:H p=none)(o:HO):Gr Hf H (upd Hf p o) (upd H p o) :=
 ⟨Z4 (e.free h) o,Same.upd e p o,Z4 h o,fun a ha ea=>by
  have:a≠p:=fun z=>ha (z▸h)
  rw[Zn this];exact ea⟩
structure SR (K:PySem.W.Frag) (H0:Hp) (B:Addr->Prop) (Hf:Hp) (sd:DSt) (σ:L2.St) (H:Hp):Prop where
 sub:Same Hf H
 all:Same H0 H
 ban:∀a,B a->Hf a=none
 bt:∀a,B a->H0 a≠none
 len:sd.length=σ.length
 imS:∀(i:Nat) (t:S),sd[i]?=some (some t)->t.own=false->∃v,σ[i]?=some (some v)/\RepS K Hf t v
 ow:∀(i:Nat) (t:S),sd[i]?=some (some t)->t.own=true->∃p,σ[i]?=some (some (.ref p))/\H0 p=none/\Hf p=none/\S.at K Hf H p t
 sep:∀(i j:Nat) (t u:S) (p:Addr),i≠j->sd[i]?=some (some t)->t.own=true->sd[j]?=some (some u)->u.own=true->σ[i]?=some (some (.ref p))->σ[j]?=some (some (.ref p))->False
section
variable {K:PySem.W.Frag} {H0 Hf Hf' H H':Hp} {B:Addr->Prop} {sd:DSt} {σ:L2.St}
theorem SR.im (r:SR K H0 B Hf sd σ H):∀(i:Nat) (d:D),sd[i]?=some (some (.im d))->∃v,σ[i]?=some (some v)/\Rep K Hf d v:=fun i _ e=>r.imS i _ e rfl
theorem SR.gr (r:SR K H0 B Hf sd σ H)(g:Gr Hf H Hf' H'):SR K H0 B Hf' sd σ H' where
 sub:=g.sub
 all:=r.all.trans g.all
 ban:=fun a h=>g.ban a (r.all.ne (r.bt a h)) (r.ban a h)
 bt:=r.bt
 len:=r.len
 imS:=fun i d e z=>let ⟨v,e1,e2⟩:=r.imS i d e z;⟨v,e1,e2.mono g.fz⟩
 ow:=fun i t e ho=>by
  obtain⟨p,e1,e2,e3,e4⟩:=r.ow i t e ho
  obtain⟨o,eo⟩:=at_some e4
  exact⟨p,e1,e2,g.ban p (by rw[eo];simp) e3,at_move e4 g.fz fun o h=>g.all _ _ h⟩
 sep:=r.sep
theorem SR.set_st (r:SR K H0 B Hf sd σ H)(i:Nat){d:S}{v:V}(hd:d.own=false)(h:RepS K Hf d v):SR K H0 B Hf (sd.set i (some d)) (σ.set i (some v)) H where
 sub:=r.sub
 all:=r.all
 ban:=r.ban
 bt:=r.bt
 len:=by rw[List.length_set,List.length_set];exact r.len
 imS:=fun j d' e z=>by
  by_cases hj:i=j
  ·subst hj
   have hi:i<sd.length:=by
    have:=(List.getElem?_eq_some_iff.mp e).1;simpa using this
   rw[List.getElem?_set_self hi] at e
   cases e
   exact⟨v,by rw[List.getElem?_set_self (by rw[<-r.len];exact hi)],h⟩
  ·rw[List.getElem?_set_ne hj] at e ⊢
   exact r.imS j d' e z
 ow:=fun j t e ho=>by
  by_cases hj:i=j
  ·subst hj
   have hi:i<sd.length:=by
    have:=(List.getElem?_eq_some_iff.mp e).1;simpa using this
   rw[List.getElem?_set_self hi] at e
   cases e
   rw[hd] at ho;cases ho
  ·rw[List.getElem?_set_ne hj] at e ⊢
   exact r.ow j t e ho
 sep:=fun j k t u p hjk e1 o1 e2 o2 e3 e4=>by
  have ne:∀{l:Nat} {fs:S},(sd.set i (some d))[l]?=some (some fs)->fs.own=true->i≠l:=fun {l fs} e o z=>by
   subst z
   have hi:i<sd.length:=by
    have:=(List.getElem?_eq_some_iff.mp e).1;simpa using this
   rw[List.getElem?_set_self hi] at e
   cases e
   rw[hd] at o;cases o
  have n1:=ne e1 o1
  have n2:=ne e2 o2
  rw[List.getElem?_set_ne n1] at e1 e3
  rw[List.getElem?_set_ne n2] at e2 e4
  exact r.sep j k t u p hjk e1 o1 e2 o2 e3 e4
theorem SR.set_im (r:SR K H0 B Hf sd σ H)(i:Nat){d:D}{v:V}(h:Rep K Hf d v):SR K H0 B Hf (sd.set i (some (.im d))) (σ.set i (some v)) H:=r.set_st (d:=.im d) i rfl h
theorem SR.set_own (r:SR K H0 B Hf sd σ H)(i:Nat){p:Addr}{o:HO}{t:S}(hp:H p=none)(ho:t.own=true)(h:S.at K Hf (upd H p o) p t):SR K H0 B Hf (sd.set i (some t)) (σ.set i (some (.ref p))) (upd H p o) where
 sub:=r.sub.trans (Z4 hp _)
 all:=r.all.trans (Z4 hp _)
 ban:=r.ban
 bt:=r.bt
 len:=by rw[List.length_set,List.length_set];exact r.len
 imS:=fun j d' e z=>by
  by_cases hj:i=j
  ·subst hj
   have hi:i<sd.length:=by
    have:=(List.getElem?_eq_some_iff.mp e).1;simpa using this
   rw[List.getElem?_set_self hi] at e
   cases e
   rw[ho] at z;cases z
  ·rw[List.getElem?_set_ne hj] at e ⊢
   exact r.imS j d' e z
 ow:=fun j u e hu=>by
  by_cases hj:i=j
  ·subst hj
   have hi:i<sd.length:=by
    have:=(List.getElem?_eq_some_iff.mp e).1;simpa using this
   rw[List.getElem?_set_self hi] at e
   cases e
   exact⟨p,by rw[List.getElem?_set_self (by rw[<-r.len];exact hi)],r.all.free hp,r.sub.free hp,h⟩
  ·rw[List.getElem?_set_ne hj] at e ⊢
   obtain⟨q,e1,e2,e3,e4⟩:=r.ow j u e hu
   exact⟨q,e1,e2,e3,at_move e4 (Same.refl _) fun o h=>Z4 hp _ _ _ h⟩
 sep:=fun j k u w q hjk e1 o1 e2 o2 e3 e4=>by
  have new:∀{l:Nat},i=l->(σ.set i (some (V.ref p)))[l]?=some (some (.ref q))->q=p:=fun {l} z e=>by
   subst z
   have hi:i<σ.length:=by
    have:=(List.getElem?_eq_some_iff.mp e).1;simpa using this
   rw[List.getElem?_set_self hi] at e
   cases e;rfl
  have old:∀{l:Nat} {u:S},i≠l->(sd.set i (some t))[l]?=some (some u)->u.own=true->(σ.set i (some (V.ref p)))[l]?=some (some (.ref q))->q≠p:=fun {l u} n e ou z=>by
   rw[List.getElem?_set_ne n] at e z
   obtain⟨q',e1,_,_,e4⟩:=r.ow l u e ou
   rw[z] at e1
   cases e1
   obtain⟨o,eo⟩:=at_some e4
   exact Zy eo hp
  by_cases n1:i=j
  ·have n2:i≠k:=fun z=>hjk (n1.symm.trans z)
   exact old n2 e2 o2 e4 (new n1 e3)
  ·by_cases n2:i=k
   ·exact old n1 e1 o1 e3 (new n2 e4)
   ·rw[List.getElem?_set_ne n1] at e1 e3
    rw[List.getElem?_set_ne n2] at e2 e4
    exact r.sep j k u w q hjk e1 o1 e2 o2 e3 e4
theorem SR.change (r:SR K H0 B Hf sd σ H){i:Nat}{p:Addr}{o:HO}{t u:S}(ht:sd[i]?=some (some t))(ot:t.own=true)(hi:σ[i]?=some (some (.ref p)))(ou:u.own=true)(h:S.at K Hf (upd H p o) p u):SR K H0 B Hf (sd.set i (some u)) σ (upd H p o):=by
 obtain⟨p',z1,z2,z3,z4⟩:=r.ow i t ht ot
 rw[hi] at z1
 cases z1
 have hl:i<sd.length:=(List.getElem?_eq_some_iff.mp ht).1
 have back:∀{j:Nat} {w:S},i≠j->(sd.set i (some u))[j]?=some (some w)->sd[j]?=some (some w):=fun {j w} n e=>by rwa[List.getElem?_set_ne n] at e
 refine⟨fun b v q=>?_,fun b v q=>?_,r.ban,r.bt,by rw[List.length_set];exact r.len,fun j d e z=>?_,fun j w e ow=>?_,fun j k w x q hjk e1 o1 e2 o2 e3 e4=>?_⟩
 ·rw[Zn (Zy q z3)];exact r.sub b v q
 ·rw[Zn (Zy q z2)];exact r.all b v q
 ·by_cases n:i=j
  ·subst n
   rw[List.getElem?_set_self hl] at e
   cases e
   rw[ou] at z;cases z
  ·exact r.imS j d (back n e) z
 ·by_cases n:i=j
  ·subst n
   rw[List.getElem?_set_self hl] at e
   cases e
   exact⟨p,hi,z2,z3,h⟩
  ·obtain⟨q,e1,e2,e3,e4⟩:=r.ow j w (back n e) ow
   refine⟨q,e1,e2,e3,at_move e4 (Same.refl _) fun o' h'=>?_⟩
   have:q≠p:=fun z=>by
    subst z
    exact r.sep i j t w q n ht ot (back n e) ow hi e1
   rw[Zn this];exact h'
 ·have get:∀{l:Nat} {w:S},(sd.set i (some u))[l]?=some (some w)->w.own=true->∃w',sd[l]?=some (some w')/\w'.own=true:=fun {l w} e ow=>by
   by_cases n:i=l
   ·subst n;exact⟨t,ht,ot⟩
   ·exact⟨w,back n e,ow⟩
  obtain⟨w',a1,a2⟩:=get e1 o1
  obtain⟨x',b1,b2⟩:=get e2 o2
  exact r.sep j k w' x' q hjk a1 a2 b1 b2 e3 e4
theorem SR.freeze (r:SR K H0 B Hf sd σ H){i:Nat}{ds:List D}(ht:sd[i]?=some (some (.ow ds))):∃Hf',Same Hf Hf'/\SR K H0 B Hf' (sd.set i (some (.im (.lst ds)))) σ H:=by
 obtain⟨p,z1,z2,z3,xs,z4,z5⟩:=r.ow i _ ht rfl
 have hl:i<sd.length:=(List.getElem?_eq_some_iff.mp ht).1
 have back:∀{j:Nat} {w:S},i≠j->(sd.set i (some (S.im (.lst ds))))[j]?=some (some w)->sd[j]?=some (some w):=fun {j w} n e=>by rwa[List.getElem?_set_ne n] at e
 have sm:=Z4 z3 (.lst xs)
 refine⟨upd Hf p (.lst xs),sm,fun b v q=>?_,r.all,fun a h=>?_,r.bt,by rw[List.length_set];exact r.len,fun j d e z=>?_,fun j w e ow=>?_,fun j k w x q hjk e1 o1 e2 o2 e3 e4=>?_⟩
 ·by_cases hb:b=p
  ·subst hb;rw[Zo] at q;rw[z4];exact q
  ·rw[Zn hb] at q;exact r.sub b v q
 ·have:a≠p:=fun z=>r.bt a h (z▸z2)
  rw[Zn this];exact r.ban a h
 ·by_cases n:i=j
  ·subst n
   rw[List.getElem?_set_self hl] at e
   cases e
   exact⟨_,z1,(rep_lst.mpr ⟨p,xs,rfl,SqL.of Zo,z5.mono sm⟩:Rep K _ (.lst ds) _)⟩
  ·obtain⟨v,e1,e2⟩:=r.imS j d (back n e) z
   exact⟨v,e1,e2.mono sm⟩
 ·by_cases n:i=j
  ·subst n
   rw[List.getElem?_set_self hl] at e
   cases e
   cases ow
  ·obtain⟨q,e1,e2,e3,e4⟩:=r.ow j w (back n e) ow
   refine⟨q,e1,e2,?_,at_move e4 sm fun o' h'=>h'⟩
   have:q≠p:=fun z=>by
    subst z
    exact r.sep i j _ w q n ht rfl (back n e) ow z1 e1
   rw[Zn this];exact e3
 ·have ne:∀{l:Nat} {w:S},(sd.set i (some (S.im (.lst ds))))[l]?=some (some w)->w.own=true->i≠l:=fun {l w} e o z=>by
   subst z
   rw[List.getElem?_set_self hl] at e
   cases e
   cases o
  exact r.sep j k w x q hjk (back (ne e1 o1) e1) o1 (back (ne e2 o2) e2) o2 e3 e4
end
def RepX (K:PySem.W.Frag)(Hf _H:Hp)(x:XV)(c:Value)(dx:Option Addr):Prop :=
 ∃C xs,c=.ref C/\PySem.W.nsIn K mainGlobals x.cls=some (some (.ref C))/\XF Hf x.ns xs dx/\Reps K Hf x.ds xs
def Po (K:PySem.W.Frag)(E:XK){α β:Type}(R:Hp->Hp->α->β->Prop)(Hf H:Hp)(r:M α)(Q:β->Hp->Prop):Prop:=match r with
 |.ok a=>∀b Hf' H',Gr Hf H Hf' H'->R Hf' H' a b->Q b H'
 |.ex x=>∀c dx Hf' H',Gr Hf H Hf' H'->RepX K Hf' H' x c dx->E c dx H'
 |.bad=>False
def rV (K:PySem.W.Frag)(Hf _H:Hp)(d:D)(v:V):Prop:=Rep K Hf d v
def rA (K:PySem.W.Frag)(Hf _H:Hp)(ds:List D)(vs:List V):Prop:=Reps K Hf ds vs
def rQ {α:Type}(_Hf _H:Hp)(a b:α):Prop:=a=b
section
variable {K:PySem.W.Frag} {E:XK} {α β γ δ:Type} {R:Hp->Hp->α->β->Prop} {T:Hp->Hp->γ->δ->Prop} {Hf H Hf1 H1:Hp}
theorem Po.weak {r:M α}{Q:β->Hp->Prop}(g:Gr Hf H Hf1 H1)(h:Po K E R Hf H r Q):Po K E R Hf1 H1 r Q:=by
 cases r with
 |ok a=>exact fun b Hf' H' g' q=>h b Hf' H' (g.trans g') q
 |ex x=>exact fun c dx Hf' H' g' q=>h c dx Hf' H' (g.trans g') q
 |bad=>exact h
theorem Po.bind {r:M α}{k:α->M γ}{Q:δ->Hp->Prop}{Q1:β->Hp->Prop}(h:Po K E T Hf H (r.bind k) Q)(s:∀a b Hf1 H1,r=.ok a->Gr Hf H Hf1 H1->R Hf1 H1 a b->Po K E T Hf1 H1 (k a) Q->Q1 b H1):Po K E R Hf H r Q1:=by
 cases r with
 |ok a=>exact fun b Hf' H' g q=>s a b Hf' H' rfl g q (Po.weak g h)
 |ex x=>exact h
 |bad=>exact h
theorem Po.ret {a:α}{b:β}{Q:β->Hp->Prop}(e:Same Hf H)(h:Po K E R Hf H (.ok a) Q)(q:R Hf H a b):Q b H:=h b Hf H (Gr.refl e) q
end
def PEd (X:Cx)(E:XK)(e:Expr)(f:DSt->M D):Prop :=
 ∃t:TE,PE X e t/\∀(H0:Hp) (B:Addr->Prop) (Hf:Hp) (sd:DSt) (σ:L2.St) (H:Hp) (Q:VK),SR X.K H0 B Hf sd σ H->Po X.K E (rV X.K) Hf H (f sd) Q->t σ H Q
def PAd (X:Cx)(E:XK)(es:List Expr)(f:DSt->M (List D)):Prop :=
 ∃t:TA,PA X es t/\∀(H0:Hp) (B:Addr->Prop) (Hf:Hp) (sd:DSt) (σ:L2.St) (H:Hp) (Q:List V->Hp->Prop),SR X.K H0 B Hf sd σ H->Po X.K E (rA X.K) Hf H (f sd) Q->t σ H Q
def PTd (X:Cx)(E:XK)(e:Expr)(f:DSt->M Bool):Prop :=
 ∃t:TT,PT X e t/\∀(H0:Hp) (B:Addr->Prop) (Hf:Hp) (sd:DSt) (σ:L2.St) (H:Hp) (Q:Bool->Hp->Prop),SR X.K H0 B Hf sd σ H->Po X.K E rQ Hf H (f sd) Q->t σ H Q
def PWd (X:Cx)(E:XK)(e:Expr)(f:DSt->M Bool):Prop :=
 ∃t:TT,PW X e t/\∀(H0:Hp) (B:Addr->Prop) (Hf:Hp) (sd:DSt) (σ:L2.St) (H:Hp) (Q:Bool->Hp->Prop),SR X.K H0 B Hf sd σ H->Po X.K E rQ Hf H (f sd) Q->t σ H Q
def POd (X:Cx)(E:XK)(e:Option Expr)(f:DSt->M (Option Int)):Prop :=
 ∃t:TO,PO X e t/\∀(H0:Hp) (B:Addr->Prop) (Hf:Hp) (sd:DSt) (σ:L2.St) (H:Hp) (Q:Option Int->Hp->Prop),SR X.K H0 B Hf sd σ H->Po X.K E rQ Hf H (f sd) Q->t σ H Q
inductive O where
 |nx (sd:DSt)|rt (s:S)|bk (sd:DSt)|ct (sd:DSt)
structure Fin' (H0:Hp) (B:Addr->Prop) (Hf H:Hp):Prop where
 sub:Same Hf H
 all:Same H0 H
 ban:∀a,B a->Hf a=none
def RS (K:PySem.W.Frag)(H0 Hf H:Hp):S->V->Prop
 |.im d,v=>Rep K Hf d v
 |.xc x,v=>RepE K Hf x v
 |t,v=>∃p,v=.ref p/\H0 p=none/\Hf p=none/\S.at K Hf H p t
def PoS (K:PySem.W.Frag)(E:XK)(H0:Hp)(B:Addr->Prop)(Hf:Hp)(r:M O)(D:Ends):Prop:=match r with
 |.ok (.nx sd')=>∀σ' Hf' H',Same Hf Hf'->SR K H0 B Hf' sd' σ' H'->D.nx σ' H'
 |.ok (.bk sd')=>∀σ' Hf' H',Same Hf Hf'->SR K H0 B Hf' sd' σ' H'->D.bk σ' H'
 |.ok (.ct sd')=>∀σ' Hf' H',Same Hf Hf'->SR K H0 B Hf' sd' σ' H'->D.ct σ' H'
 |.ok (.rt s)=>∀v Hf' H',Same Hf Hf'->Fin' H0 B Hf' H'->RS K H0 Hf' H' s v->D.rt v H'
 |.ex x=>∀c dx Hf' H',Same Hf Hf'->Fin' H0 B Hf' H'->RepX K Hf' H' x c dx->E c dx H'
 |.bad=>False
theorem SR.fin {K:PySem.W.Frag}{H0 Hf H:Hp}{B:Addr->Prop}{sd:DSt}{σ:L2.St}(r:SR K H0 B Hf sd σ H):Fin' H0 B Hf H:=⟨r.sub,r.all,r.ban⟩
def PSd (X:Cx)(E:XK)(st:Stmt)(f:DSt->M O):Prop :=
 ∃t:TS,PS X st t/\∀(H0:Hp) (B:Addr->Prop) (Hf:Hp) (sd:DSt) (σ:L2.St) (H:Hp) (D:Ends),SR X.K H0 B Hf sd σ H->PoS X.K E H0 B Hf (f sd) D->t D σ H
def PSsd (X:Cx)(E:XK)(st:List Stmt)(f:DSt->M O):Prop :=
 ∃t:TS,PSs X st t/\∀(H0:Hp) (B:Addr->Prop) (Hf:Hp) (sd:DSt) (σ:L2.St) (H:Hp) (D:Ends),SR X.K H0 B Hf sd σ H->PoS X.K E H0 B Hf (f sd) D->t D σ H
theorem PoS.weak {K:PySem.W.Frag}{E:XK}{H0 Hf Hf1:Hp}{B:Addr->Prop}{r:M O}{D:Ends}(g:Same Hf Hf1)(h:PoS K E H0 B Hf r D):PoS K E H0 B Hf1 r D:=by
 cases r with
 |ok o =>
  cases o with
  |nx sd=>exact fun σ' Hf' H' e q=>h σ' Hf' H' (g.trans e) q
  |bk sd=>exact fun σ' Hf' H' e q=>h σ' Hf' H' (g.trans e) q
  |ct sd=>exact fun σ' Hf' H' e q=>h σ' Hf' H' (g.trans e) q
  |rt s=>exact fun v Hf' H' e q=>h v Hf' H' (g.trans e) q
 |ex x=>exact fun c dx Hf' H' e q=>h c dx Hf' H' (g.trans e) q
 |bad=>exact h
theorem PoS.bind {K:PySem.W.Frag}{E:XK}{H0 Hf H:Hp}{B:Addr->Prop}{sd:DSt}{σ:L2.St}{α β:Type}{R:Hp->Hp->α->β->Prop}{r:M α}{k:α->M O}{D:Ends}{Q1:β->Hp->Prop}(sr:SR K H0 B Hf sd σ H)(h:PoS K E H0 B Hf (r.bind k) D)(s:∀a b Hf1 H1,r=.ok a->Gr Hf H Hf1 H1->SR K H0 B Hf1 sd σ H1->R Hf1 H1 a b->PoS K E H0 B Hf1 (k a) D->Q1 b H1):Po K E R Hf H r Q1:=by
 cases r with
 |ok a=>exact fun b Hf' H' g q=>s a b Hf' H' rfl g (sr.gr g) q (PoS.weak g.fz h)
 |ex x=>exact fun c dx Hf' H' g q=>h c dx Hf' H' g.fz (sr.gr g).fin q
 |bad=>exact h
section
variable {X:Cx} {E:XK} {pos:Pos} {a b:Expr}
def Zd (i:Nat)(sd:DSt):M D:=match sd[i]? with
 |some (some (.im d))=>.ok d
 |_=>.bad
theorem Zc (i:Nat){x:Str}(hN:X.N[i]?=some x:=by rfl)(hv:Vis X.env.scope x:=by first|exact Or.inl rfl|exact Or.inr (Or.inl rfl)|exact Or.inr (Or.inr rfl)) (hd:(x==("__debug__" : Str))=false:=by decide)
  (hcd:(x==("__classdict__" : Str))=false:=by decide):PEd X E (.Name x pos) (Zd i):=by
 refine⟨_,Ym hN hv hd hcd,fun H0 B Hf sd σ H Q sr h=>?_⟩
 unfold Zd at h
 split at h
 ·rename_i d e
  obtain⟨v,e1,e2⟩:=sr.im i d e
  exact⟨v,e1,Po.ret sr.sub h e2⟩
 ·exact h.elim
def eC (d:D)(_:DSt):M D:=.ok d
theorem Ze {i:Int}{j}:PEd X E (.Constant (.int i) j pos) (eC (.int i)):=⟨_,pe_int,fun _ _ _ _ _ _ _ sr h=>Po.ret sr.sub h (rep_int.mpr rfl)⟩
theorem pd_bl {i:Bool}{j}:PEd X E (.Constant (.bool i) j pos) (eC (.bl i)):=⟨_,pe_bl,fun _ _ _ _ _ _ _ sr h=>Po.ret sr.sub h (rep_bl.mpr rfl)⟩
theorem Q3 {j}:PEd X E (.Constant .none j pos) (eC .non):=⟨_,pe_non,fun _ _ _ _ _ _ _ sr h=>Po.ret sr.sub h (rep_non.mpr rfl)⟩
theorem Qf {x}{j}:PEd X E (.Constant (.str x) j pos) (eC (.str x)):=⟨_,pe_str,fun _ _ _ _ _ _ _ sr h=>Po.ret sr.sub h (rep_str.mpr rfl)⟩
def OpD (X:Cx)(E:XK)(f:Value->Value->Sem Value)(g:D->D->M D):Prop :=
 ∃r:R2,OpR X f r/\∀(Hf H:Hp) (x y:V) (dx dy:D) (Q:VK),Same Hf H->Rep X.K Hf dx x->Rep X.K Hf dy y->Po X.K E (rV X.K) Hf H (g dx dy) Q->r x y H Q
def eOp (g:D->D->M D)(fa fb:DSt->M D)(sd:DSt):M D:=(fa sd).bind fun x=>(fb sd).bind fun y=>g x y
theorem two {fa fb:DSt->M D}{g:D->D->M D}{ta tb:TE}{r:R2}{H0:Hp}{B:Addr->Prop}{Hf:Hp}{sd:DSt}{σ:L2.St}{H:Hp}{Q:VK}(ha:∀(H0:Hp) (B:Addr->Prop) (Hf:Hp) (sd:DSt) (σ:L2.St) (H:Hp) (Q:VK),SR X.K H0 B Hf sd σ H->Po X.K E (rV X.K) Hf H (fa sd) Q->ta σ H Q)(hb:∀(H0:Hp) (B:Addr->Prop) (Hf:Hp) (sd:DSt) (σ:L2.St) (H:Hp) (Q:VK),SR X.K H0 B Hf sd σ H->Po X.K E (rV X.K) Hf H (fb sd) Q->tb σ H Q)(hr:∀(Hf H:Hp) (x y:V) (dx dy:D) (Q:VK),Same Hf H->Rep X.K Hf dx x->Rep X.K Hf dy y->Po X.K E (rV X.K) Hf H (g dx dy) Q->r x y H Q)(sr:SR X.K H0 B Hf sd σ H)(h:Po X.K E (rV X.K) Hf H (eOp g fa fb sd) Q):tOp r ta tb σ H Q:=by
 refine ha H0 B Hf sd σ H _ sr (Po.bind h fun dx x Hf1 H1 _ g1 rx h1=>?_)
 have sr1:=sr.gr g1
 refine hb H0 B Hf1 sd σ H1 _ sr1 (Po.bind h1 fun dy y Hf2 H2 _ g2 ry h2=>?_)
 exact hr Hf2 H2 x y dx dy Q g2.sub (Rep.mono g2.fz rx) ry h2
theorem Zw {op:Operator}{g:D->D->M D}{fa fb:DSt->M D}(ho:OpD X E (binaryOp op) g)(ha:PEd X E a fa)(hb:PEd X E b fb):PEd X E (.BinOp a op b pos) (eOp g fa fb):=by
 obtain⟨r,hr,qr⟩:=ho
 obtain⟨ta,pa,qa⟩:=ha
 obtain⟨tb,pb,qb⟩:=hb
 exact⟨_,pe_op hr pa pb,fun H0 B Hf sd σ H Q sr h=>two qa qb qr sr h⟩
theorem Xh {op:CmpOp}{g:D->D->M D}{fa fb:DSt->M D}(ho:OpD X E (compareOp op) g)(ha:PEd X E a fa)(hb:PEd X E b fb)(hm:behindInMarks op b=false):PEd X E (.Compare a [op] [b] pos) (eOp g fa fb):=by
 obtain⟨r,hr,qr⟩:=ho
 obtain⟨ta,pa,qa⟩:=ha
 obtain⟨tb,pb,qb⟩:=hb
 exact⟨_,pe_cmpR hr pa pb hm,fun H0 B Hf sd σ H Q sr h=>two qa qb qr sr h⟩
theorem OpD.or {f:Value->Value->Sem Value}{g g':D->D->M D}(h:OpD X E f g)(h':OpD X E f g')(p:D->D->Bool):OpD X E f (fun x y=>if p x y then g x y else g' x y):=by
 obtain⟨r,hr,qr⟩:=h
 obtain⟨r',hr',qr'⟩:=h'
 refine⟨_,hr.or hr',fun Hf H x y dx dy Q e rx ry q=>?_⟩
 dsimp only at q
 by_cases c:p dx dy=true
 ·rw[if_pos c] at q
  exact .inl (qr Hf H x y dx dy Q e rx ry q)
 ·rw[if_neg c] at q
  exact .inr (qr' Hf H x y dx dy Q e rx ry q)
def gI (c:Int->Int->Bool)(g:Int->Int->D):D->D->M D
 |.int i,.int j=>if c i j then .ok (g i j) else .bad
 |_,_=>.bad
def gI0 (g:Int->Int->D):D->D->M D
 |.int i,.int j=>.ok (g i j)
 |_,_=>.bad
theorem od_I0 {f:Value->Value->Sem Value}{gv:Int->Int->V}{gd:Int->Int->D}(h:OpR X f (rI0 gv))(hg:∀i j (H:Hp),Rep X.K H (gd i j) (gv i j)):OpD X E f (gI0 gd):=by
 refine⟨_,h,fun Hf H x y dx dy Q e rx ry q=>?_⟩
 unfold gI0 at q
 split at q
 ·rename_i i j
  exact⟨i,j,rep_int.mp rx,rep_int.mp ry,Po.ret e q (hg i j Hf)⟩
 ·exact q.elim
theorem od_I {f:Value->Value->Sem Value}{C:Int->Int->Prop}{c:Int->Int->Bool}{gv:Int->Int->V}{gd:Int->Int->D}(h:OpR X f (rI C gv))(hc:∀i j,c i j=true->C i j)(hg:∀i j (H:Hp),Rep X.K H (gd i j) (gv i j)):OpD X E f (gI c gd):=by
 refine⟨_,h,fun Hf H x y dx dy Q e rx ry q=>?_⟩
 unfold gI at q
 split at q
 ·rename_i i j
  split at q
  ·rename_i hcc
   exact⟨i,j,rep_int.mp rx,rep_int.mp ry,hc i j hcc,Po.ret e q (hg i j Hf)⟩
  ·exact q.elim
 ·exact q.elim
def gSub:D->D->M D:=gI0 fun i j=>.int (i - j)
def gLt:D->D->M D:=gI0 fun i j=>.bl (decide (i<j))
def gLe:D->D->M D:=gI0 fun i j=>.bl (decide (i<=j))
def gGt:D->D->M D:=gI0 fun i j=>.bl (decide (j<i))
def gGe:D->D->M D:=gI0 fun i j=>.bl (decide (j<=i))
theorem od_sub:OpD X E (binaryOp .Sub) gSub:=od_I0 op_sub fun _ _ _=>rep_int.mpr rfl
theorem od_lt:OpD X E (compareOp .Lt) gLt:=od_I0 op_lt fun _ _ _=>rep_bl.mpr rfl
theorem od_le:OpD X E (compareOp .LtE) gLe:=od_I0 op_le fun _ _ _=>rep_bl.mpr rfl
theorem od_gt:OpD X E (compareOp .Gt) gGt:=od_I0 op_gt fun _ _ _=>rep_bl.mpr rfl
theorem od_ge:OpD X E (compareOp .GtE) gGe:=od_I0 op_ge fun _ _ _=>rep_bl.mpr rfl
end
end DL
set_option maxHeartbeats 4000000
namespace DL
open PySem PySem.Spec PyProof.Rows L2
section
variable {X:Cx} {E:XK} {pos:Pos} {a b:Expr}
theorem bits_of {i:Int}(h:i.natAbs<2 ^ 4000):Builtin.Int.intBits i<=2 ^ 20:=by
 unfold Builtin.Int.intBits
 split
 ·exact Nat.zero_le _
 ·rename_i hz
  have hn:i.natAbs≠0:=fun z=>hz (by rw[Int.natAbs_eq_zero.mp z];rfl)
  have:i.natAbs.log2<4000:=(Nat.log2_lt hn).mpr h
  have e:(2:Nat) ^ 20=1048576:=rfl
  lia
def CBig (i j:Int):Prop:=i.natAbs<2 ^ 4000/\j.natAbs<2 ^ 4000
def CNz (_i j:Int):Prop:=j≠0/\j.natAbs<2 ^ 4000
theorem log_of {j:Int}(h:j.natAbs<2 ^ 4000):j.natAbs.log2<9000:=by
 by_cases hn:j.natAbs=0
 ·rw[hn];decide
 ·have:j.natAbs.log2<4000:=(Nat.log2_lt hn).mpr h
  lia
theorem op_mulB:OpR X (binaryOp .Mult) (rI CBig fun i j=>.int (i*j)):=opI fun _ _ _ _ _ _ _ hc q=>mul_int q (IntMulOk.of_bits (bits_of hc.1) (bits_of hc.2))
theorem op_fdivB:OpR X (binaryOp .FloorDiv) (rI CNz fun i j=>.int (i.fdiv j)):=opI fun _ _ _ _ _ _ _ hc q=>floordiv_int hc.1 q (.inl (PyProof.noPylong_of_log2 (log_of hc.2)))
def sm (i:Int):Bool:=decide (i.natAbs<2 ^ 4000)
theorem sm_iff {i:Int}:sm i=true↔i.natAbs<2 ^ 4000:=decide_eq_true_iff
def gMul:D->D->M D:=gI (fun i j=>sm i&&sm j) fun i j=>.int (i*j)
def gFdiv:D->D->M D:=gI (fun _ j=>j != 0&&sm j) fun i j=>.int (i.fdiv j)
def Qz:D->D->M D:=gI (fun _ j=>j != 0) fun i j=>.int (i.fmod j)
def gPow:D->D->M D:=gI (fun i j=>decide (0<=j/\j<=1000/\i.natAbs<1000)) fun i j=>.int (i ^ j.toNat)
theorem od_mul:OpD X E (binaryOp .Mult) gMul:=od_I op_mulB (fun i j h=>by
 rw[Bool.and_eq_true] at h
 exact⟨sm_iff.mp h.1,sm_iff.mp h.2⟩) fun _ _ _=>rep_int.mpr rfl
theorem od_fdiv:OpD X E (binaryOp .FloorDiv) gFdiv:=od_I op_fdivB (fun i j h=>by
 rw[Bool.and_eq_true] at h
 exact⟨by simpa using h.1,sm_iff.mp h.2⟩) fun _ _ _=>rep_int.mpr rfl
theorem Yg:OpD X E (binaryOp .Mod) Qz:=od_I op_modN (fun i j h=>by simpa using h) fun _ _ _=>rep_int.mpr rfl
theorem od_pow:OpD X E (binaryOp .Pow) gPow:=od_I op_pow (fun i j h=>by
 have h:=of_decide_eq_true h
 refine⟨h.1,by lia,?_⟩
 have e:(2:Nat) ^ 64=18446744073709551616:=rfl
 lia) fun _ _ _=>rep_int.mpr rfl
theorem atI_rep {K:PySem.W.Frag}{H:Hp}{ds:List D}{xs:List V}{i:Int}{d:D}(r:Reps K H ds xs)(e:atI ds i=some d):∃x,atI xs i=some x/\Rep K H d x:=by
 unfold atI at e ⊢
 rw[<-r.length]
 cases q:ixN ds.length i with
 |none=>rw[q] at e;cases e
 |some j =>
  rw[q] at e
  exact r.get e
def gIx:D->D->M D
 |.lst ds,.int i=>match atI ds i with
  |some d=>.ok d
  |none=>.bad
 |.tup ds,.int i=>match atI ds i with
  |some d=>.ok d
  |none=>.bad
 |.str z,.int i=>if z.length<=sizeLine then(match atI z.cps.toList i with
  |some c=>.ok (.str ⟨#[c]⟩)
  |none=>.bad) else .bad
 |_,_=>.bad
theorem Zl {fa fb:DSt->M D}(ha:PEd X E a fa)(hb:PEd X E b fb)(hs:PlainIx b):PEd X E (.Subscript a b pos) (eOp gIx fa fb):=by
 obtain⟨ta,pa,qa⟩:=ha
 obtain⟨tb,pb,qb⟩:=hb
 refine⟨_,pe_ix ix_seq pa pb hs,fun H0 B Hf sd σ H Q sr h=>two qa qb (fun Hf H x y dx dy Q e rx ry q=>?_) sr h⟩
 unfold gIx at q
 split at q
 ·rename_i ds i
  split at q
  ·rename_i d ei
   obtain⟨p,xs,rfl,hp,hr⟩:=rep_lst.mp rx
   obtain⟨v,e1,e2⟩:=atI_rep hr ei
   exact .inl ⟨p,xs,i,v,rfl,rep_int.mp ry,e.seq hp,e1,Po.ret e q e2⟩
  ·exact q.elim
 ·rename_i ds i
  split at q
  ·rename_i d ei
   obtain⟨p,xs,rfl,hp,hr⟩:=Z8 rx
   obtain⟨v,e1,e2⟩:=atI_rep hr ei
   exact .inr (.inl ⟨p,xs,i,v,rfl,rep_int.mp ry,Same.seqT e hp,e1,Po.ret e q e2⟩)
  ·exact q.elim
 ·rename_i z i
  split at q
  ·rename_i hz
   split at q
   ·rename_i c ei
    exact .inr (.inr ⟨z,i,c,rep_str.mp rx,rep_int.mp ry,hz,ei,Po.ret e q (rep_str.mpr rfl)⟩)
   ·exact q.elim
  ·exact q.elim
 ·exact q.elim
def Zj (_:DSt):M (List D):=.ok []
def Zb (fa:DSt->M D)(fr:DSt->M (List D))(sd:DSt):M (List D):=(fa sd).bind fun d=>(fr sd).bind fun ds=>.ok (d::ds)
theorem Zf:PAd X E [] Zj:=⟨_,pa_nil,fun _ _ _ _ _ _ _ sr h=>Po.ret sr.sub h Reps.nil⟩
theorem Za {es:List Expr}{fa:DSt->M D}{fr:DSt->M (List D)}(ha:PEd X E a fa)(hr:PAd X E es fr)(hs:starEach (a::es) X.env=(false,eval a X.env)::starEach es X.env:=by rfl):PAd X E (a::es) (Zb fa fr):=by
 obtain⟨ta,pa,qa⟩:=ha
 obtain⟨tr,pr,qr⟩:=hr
 refine⟨_,pa_cons pa pr hs,fun H0 B Hf sd σ H Q sr h=>?_⟩
 refine qa H0 B Hf sd σ H _ sr (Po.bind h fun d v Hf1 H1 _ g1 rv h1=>?_)
 refine qr H0 B Hf1 sd σ H1 _ (sr.gr g1) (Po.bind h1 fun ds vs Hf2 H2 _ g2 rs h2=>?_)
 exact Po.ret g2.sub h2 (Reps.cons (Rep.mono g2.fz rv) rs)
def few (ds:List D):Bool:=decide (ds.length<=1000000)
theorem few_line {K:PySem.W.Frag}{H:Hp}{ds:List D}{xs:List V}(h:few ds=true)(r:Reps K H ds xs):xs.length<=sizeLine:=by
 have:=of_decide_eq_true h
 have e:=sizeLine_eq
 rw[<-r.length,e]
 lia
def Qn (fs:DSt->M (List D))(sd:DSt):M D:=(fs sd).bind fun ds=>if few ds then .ok (.tup ds) else .bad
def Xb (fs:DSt->M (List D))(sd:DSt):M D:=(fs sd).bind fun ds=>if few ds then .ok (.lst ds) else .bad
theorem Gr.tup {K:PySem.W.Frag}{Hf H:Hp}{p:Addr}{ds:List D}{xs:List V}(e:Same Hf H)(hp:H p=none)(r:Reps K Hf ds xs):Rep K (upd Hf p (.tup xs)) (.tup ds) (.ref p) :=
 rep_tup.mpr ⟨p,xs,rfl,Zo,r.mono (Z4 (e.free hp) _)⟩
theorem Gr.lst {K:PySem.W.Frag}{Hf H:Hp}{p:Addr}{ds:List D}{xs:List V}(e:Same Hf H)(hp:H p=none)(r:Reps K Hf ds xs):Rep K (upd Hf p (.lst xs)) (.lst ds) (.ref p) :=
 rep_lst.mpr ⟨p,xs,rfl,SqL.of Zo,r.mono (Z4 (e.free hp) _)⟩
theorem Qp {es:List Expr}{fs:DSt->M (List D)}{x1}(h:PAd X E es fs):PEd X E (.Tuple es x1 pos) (Qn fs):=by
 obtain⟨t,p,q⟩:=h
 refine⟨_,pe_tup p,fun H0 B Hf sd σ H Q sr h=>?_⟩
 refine q H0 B Hf sd σ H _ sr (Po.bind h fun ds vs Hf1 H1 _ g1 rs h1=>?_)
 split at h1
 ·rename_i hf
  exact⟨few_line hf rs,fun p hp=>h1 _ _ _ (Gr.alloc g1.sub hp _) (Gr.tup g1.sub hp rs)⟩
 ·exact h1.elim
theorem Xi {es:List Expr}{fs:DSt->M (List D)}(h:PAd X E es fs):PEd X E (.List es pos) (Xb fs):=by
 obtain⟨t,p,q⟩:=h
 refine⟨_,pe_lst p,fun H0 B Hf sd σ H Q sr h=>?_⟩
 refine q H0 B Hf sd σ H _ sr (Po.bind h fun ds vs Hf1 H1 _ g1 rs h1=>?_)
 split at h1
 ·rename_i hf
  exact⟨few_line hf rs,fun p hp=>h1 _ _ _ (Gr.alloc g1.sub hp _) (Gr.lst g1.sub hp rs)⟩
 ·exact h1.elim
def CallD (X:Cx)(E:XK)(f:Value)(g:List D->M D):Prop :=
 ∃r,CallR X f r/\∀(Hf H:Hp) (xs:List V) (ds:List D) (Q:VK),Same Hf H->Reps X.K Hf ds xs->Po X.K E (rV X.K) Hf H (g ds) Q->r xs H Q
def eCB (g:List D->M D)(fs:DSt->M (List D))(sd:DSt):M D:=(fs sd).bind g
theorem pd_callB {x:Str}{id:String}{p:Pos}{g:List D->M D}{e:Expr}{es:List Expr}{fs:DSt->M (List D)}(hc:CallD X E (.builtin id) g)(hg:Gl X x)(hm:X.mg x=none)(hv:bootBuiltins x=some (.builtin id))(ha:PAd X E (e::es) fs)
  (hn:x ≠ "__name__" := by decide) (hdb:(x==("__debug__" : Str))=false:=by decide)
  (he:starEach (e::es) X.env=(false,eval e X.env)::starEach es X.env:=by rfl) (hpl:(backTo pos (starEach es X.env)).any (·.1)=false:=by rfl):PEd X E (.Call (.Name x p) (e::es) [] pos) (eCB g fs):=by
 obtain⟨r,hr,qr⟩:=hc
 obtain⟨t,pt,qt⟩:=ha
 refine⟨_,pe_callB hr hg hm hv pt hn hdb he hpl,fun H0 B Hf sd σ H Q sr h=>?_⟩
 exact qt H0 B Hf sd σ H _ sr (Po.bind h fun ds vs Hf1 H1 _ g1 rs h1=>qr Hf1 H1 vs ds Q g1.sub rs h1)
theorem pd_callT {x:Str}{T:String}{p:Pos}{g:List D->M D}{e:Expr}{es:List Expr}{fs:DSt->M (List D)}(hc:CallD X E (.type T) g)(hg:Gl X x)(hm:X.mg x=none)(hv:bootBuiltins x=some (.type T))(ha:PAd X E (e::es) fs)
  (hn:x ≠ "__name__" := by decide) (hdb:(x==("__debug__" : Str))=false:=by decide)
  (he:starEach (e::es) X.env=(false,eval e X.env)::starEach es X.env:=by rfl) (hpl:(backTo pos (starEach es X.env)).any (·.1)=false:=by rfl):PEd X E (.Call (.Name x p) (e::es) [] pos) (eCB g fs):=by
 obtain⟨r,hr,qr⟩:=hc
 obtain⟨t,pt,qt⟩:=ha
 refine⟨_,pe_callTy hr hg hm hv pt hn hdb he hpl,fun H0 B Hf sd σ H Q sr h=>?_⟩
 exact qt H0 B Hf sd σ H _ sr (Po.bind h fun ds vs Hf1 H1 _ g1 rs h1=>qr Hf1 H1 vs ds Q g1.sub rs h1)
theorem reps1 {K:PySem.W.Frag}{H:Hp}{d:D}{xs:List V}(r:Reps K H [d] xs):∃x,xs=[x]/\Rep K H d x:=by
 obtain⟨x,t,rfl,h,r2⟩:=reps_cons.mp r
 rw[reps_nil.mp r2];exact⟨x,rfl,h⟩
def bAbs:List D->M D
 |[.int i]=>.ok (.int (if i<0 then -i else i))
 |_=>.bad
theorem cd_abs:CallD X E (.builtin "abs") bAbs:=by
 refine⟨_,call_abs,fun Hf H xs ds Q e r q=>?_⟩
 unfold bAbs at q
 split at q
 ·obtain⟨x,rfl,h⟩:=reps1 r
  rw[rep_int.mp h]
  exact⟨_,rfl,Po.ret e q (rep_int.mpr rfl)⟩
 ·exact q.elim
def bInt:List D->M D
 |[.int i]=>.ok (.int i)
 |[.bl b]=>.ok (.int (if b then 1 else 0))
 |_=>.bad
theorem cd_int:CallD X E (.type "int") bInt:=by
 refine⟨_,call_int1,fun Hf H xs ds Q e r q=>?_⟩
 unfold bInt at q
 split at q
 ·obtain⟨x,rfl,h⟩:=reps1 r
  rw[rep_int.mp h]
  exact .inl ⟨_,rfl,Po.ret e q (rep_int.mpr rfl)⟩
 ·obtain⟨x,rfl,h⟩:=reps1 r
  rw[rep_bl.mp h]
  exact .inr ⟨_,rfl,Po.ret e q (rep_int.mpr rfl)⟩
 ·exact q.elim
def bLen:List D->M D
 |[.lst ds]=>.ok (.int ds.length)
 |[.tup ds]=>.ok (.int ds.length)
 |[.str z]=>if z.length<=sizeLine then .ok (.int z.length) else .bad
 |_=>.bad
theorem cd_len:CallD X E (.builtin "len") bLen:=by
 refine⟨_,call_len_seq.or call_len_str,fun Hf H xs ds Q e r q=>?_⟩
 unfold bLen at q
 split at q
 ·obtain⟨x,rfl,h⟩:=reps1 r
  obtain⟨p,ys,rfl,hp,hr⟩:=rep_lst.mp h
  refine .inl ⟨p,ys,rfl,.inl (e.seq hp),?_⟩
  rw[<-hr.length]
  exact Po.ret e q (rep_int.mpr rfl)
 ·obtain⟨x,rfl,h⟩:=reps1 r
  obtain⟨p,ys,rfl,hp,hr⟩:=Z8 h
  refine .inl ⟨p,ys,rfl,.inr (Same.seqT e hp),?_⟩
  rw[<-hr.length]
  exact Po.ret e q (rep_int.mpr rfl)
 ·split at q
  ·rename_i hz
   obtain⟨x,rfl,h⟩:=reps1 r
   rw[rep_str.mp h]
   exact .inr ⟨_,rfl,hz,Po.ret e q (rep_int.mpr rfl)⟩
  ·exact q.elim
 ·exact q.elim
def bTuple:List D->M D
 |[.lst ds]=>.ok (.tup ds)
 |[.tup ds]=>.ok (.tup ds)
 |_=>.bad
theorem cd_tuple:CallD X E (.type "tuple") bTuple:=by
 refine⟨_,call_tuple_of,fun Hf H xs ds Q e r q=>?_⟩
 unfold bTuple at q
 split at q
 ·obtain⟨x,rfl,h⟩:=reps1 r
  obtain⟨p,ys,rfl,hp,hr⟩:=rep_lst.mp h
  exact⟨p,ys,rfl,.inl ⟨e.seq hp,fun l hl=>q _ _ _ (Gr.alloc e hl _) (Gr.tup e hl hr)⟩⟩
 ·obtain⟨x,rfl,h⟩:=reps1 r
  obtain⟨p,ys,rfl,hp,hr⟩:=Z8 h
  exact⟨p,ys,rfl,.inr ⟨Same.seqT e hp,Po.ret e q (h)⟩⟩
 ·exact q.elim
def asB:D->M Bool
 |.bl b=>.ok b
 |_=>.bad
def tB (f:DSt->M D)(sd:DSt):M Bool:=(f sd).bind asB
def tN (f:DSt->M Bool)(sd:DSt):M Bool:=(f sd).bind fun b=>.ok (!b)
def tA (f g:DSt->M Bool)(sd:DSt):M Bool:=(f sd).bind fun b=>if b then g sd else .ok false
def tO (f g:DSt->M Bool)(sd:DSt):M Bool:=(f sd).bind fun b=>if b then .ok true else g sd
theorem Yh {e:Expr}{f:DSt->M D}(h:PEd X E e f)(he:∀whole,isTrue e X.env whole=(do let v <-whole;standAt e.pos;holding [v] (truthy v)):=by intro _;rfl):PTd X E e (tB f):=by
 obtain⟨t,p,q⟩:=h
 refine⟨_,pt_val p he,fun H0 B Hf sd σ H Q sr h=>?_⟩
 refine q H0 B Hf sd σ H _ sr (Po.bind h fun d v Hf1 H1 _ g1 rv h1=>?_)
 unfold asB at h1
 split at h1
 ·exact⟨_,rep_bl.mp rv,Po.ret (R:=rQ) g1.sub h1 rfl⟩
 ·exact h1.elim
theorem Zx {op:CmpOp}{g:D->D->M D}{fa fb:DSt->M D}(ho:OpD X E (compareOp op) g)(ha:PEd X E a fa)(hb:PEd X E b fb)(hm:behindInMarks op b=false):PTd X E (.Compare a [op] [b] pos) (tB (eOp g fa fb)):=by
 obtain⟨r,hr,qr⟩:=ho
 obtain⟨ta,pa,qa⟩:=ha
 obtain⟨tb,pb,qb⟩:=hb
 refine⟨_,pt_cmpR hr pa pb hm,fun H0 B Hf sd σ H Q sr h=>?_⟩
 refine two qa qb qr sr (Po.bind h fun d v Hf1 H1 _ g1 rv h1=>?_)
 unfold asB at h1
 split at h1
 ·exact⟨_,rep_bl.mp rv,Po.ret (R:=rQ) g1.sub h1 rfl⟩
 ·exact h1.elim
theorem Yp {f:DSt->M Bool}(h:PTd X E a f):PTd X E (.UnaryOp .Not a pos) (tN f):=by
 obtain⟨t,p,q⟩:=h
 refine⟨_,pt_not p,fun H0 B Hf sd σ H Q sr h=>?_⟩
 refine q H0 B Hf sd σ H _ sr (Po.bind h fun b v Hf1 H1 _ g1 rv h1=>?_)
 have e:b=v:=rv
 subst e
 exact Po.ret (R:=rQ) g1.sub h1 rfl
theorem PWd.pt {f:DSt->M Bool}{e:Expr}(h:PWd X E e f):PTd X E e f:=by
 obtain⟨t,p,q⟩:=h
 exact⟨t,p.pt,q⟩
theorem pwd_and1 {f:DSt->M Bool}(h:PTd X E a f):PWd X E (.BoolOp .And [a] pos) f:=by
 obtain⟨t,p,q⟩:=h
 exact⟨t,pw_and1 p,q⟩
theorem pwd_or1 {f:DSt->M Bool}(h:PTd X E a f):PWd X E (.BoolOp .Or [a] pos) f:=by
 obtain⟨t,p,q⟩:=h
 exact⟨t,pw_or1 p,q⟩
theorem pwd_and {rest:List Expr}{f g:DSt->M Bool}(h:PTd X E a f)(h2:PWd X E (.BoolOp .And (b::rest) pos) g):PWd X E (.BoolOp .And (a::b::rest) pos) (tA f g):=by
 obtain⟨t,p,q⟩:=h
 obtain⟨t2,p2,q2⟩:=h2
 refine⟨_,pw_and p p2,fun H0 B Hf sd σ H Q sr h=>?_⟩
 refine q H0 B Hf sd σ H _ sr (Po.bind h fun b v Hf1 H1 _ g1 rv h1=>?_)
 have e:b=v:=rv
 subst e
 cases b with
 |true=>rw[if_pos rfl] at h1 ⊢;exact q2 H0 B Hf1 sd σ H1 Q (sr.gr g1) h1
 |false=>rw[if_neg Bool.false_ne_true] at h1 ⊢;exact Po.ret (R:=rQ) g1.sub h1 rfl
theorem pwd_or {rest:List Expr}{f g:DSt->M Bool}(h:PTd X E a f)(h2:PWd X E (.BoolOp .Or (b::rest) pos) g):PWd X E (.BoolOp .Or (a::b::rest) pos) (tO f g):=by
 obtain⟨t,p,q⟩:=h
 obtain⟨t2,p2,q2⟩:=h2
 refine⟨_,pw_or p p2,fun H0 B Hf sd σ H Q sr h=>?_⟩
 refine q H0 B Hf sd σ H _ sr (Po.bind h fun b v Hf1 H1 _ g1 rv h1=>?_)
 have e:b=v:=rv
 subst e
 cases b with
 |true=>rw[if_pos rfl] at h1 ⊢;exact Po.ret (R:=rQ) g1.sub h1 rfl
 |false=>rw[if_neg Bool.false_ne_true] at h1 ⊢;exact q2 H0 B Hf1 sd σ H1 Q (sr.gr g1) h1
def eAnd (f g:DSt->M D)(sd:DSt):M D:=(f sd).bind fun d=>(asB d).bind fun b=>if b then g sd else .ok (.bl false)
def eOr (f g:DSt->M D)(sd:DSt):M D:=(f sd).bind fun d=>(asB d).bind fun b=>if b then .ok (.bl true) else g sd
def eNot (f:DSt->M D)(sd:DSt):M D:=(f sd).bind fun d=>(asB d).bind fun b=>.ok (.bl (!b))
def eIf (c:DSt->M Bool)(f g:DSt->M D)(sd:DSt):M D:=(c sd).bind fun b=>if b then f sd else g sd
theorem pd_one {op}{f:DSt->M D}(h:PEd X E a f):PEd X E (.BoolOp op [a] pos) f:=by
 obtain⟨t,p,q⟩:=h
 exact⟨t,pe_one p,q⟩
theorem asB_ok {d:D}{b:Bool}(h:asB d=.ok b):d=.bl b:=by
 unfold asB at h
 split at h
 ·cases h;rfl
 ·cases h
theorem asB_noex {d:D}{x:XV}(h:asB d=.ex x):False:=by
 unfold asB at h
 split at h<;>cases h
theorem Po.asB {K:PySem.W.Frag}{α β:Type}{R:Hp->Hp->α->β->Prop}{Hf H:Hp}{d:D}{k:Bool->M α}{Q:β->Hp->Prop}(h:Po K E R Hf H ((asB d).bind k) Q):∃b,d=.bl b/\Po K E R Hf H (k b) Q:=by
 cases q:DL.asB d with
 |ok b=>rw[q] at h;exact⟨b,asB_ok q,h⟩
 |ex x=>exact(asB_noex q).elim
 |bad=>rw[q] at h;exact h.elim
theorem Xj {rest:List Expr}{f g:DSt->M D}(h:PEd X E a f)(h2:PEd X E (.BoolOp .And (b::rest) pos) g):PEd X E (.BoolOp .And (a::b::rest) pos) (eAnd f g):=by
 obtain⟨t,p,q⟩:=h
 obtain⟨t2,p2,q2⟩:=h2
 refine⟨_,pe_and p p2,fun H0 B Hf sd σ H Q sr h=>?_⟩
 refine q H0 B Hf sd σ H _ sr (Po.bind h fun d v Hf1 H1 _ g1 rv h1=>?_)
 obtain⟨c,rfl,h2⟩:=Po.asB h1
 refine⟨c,rep_bl.mp rv,?_⟩
 cases c with
 |true=>rw[if_pos rfl] at h2 ⊢;exact q2 H0 B Hf1 sd σ H1 Q (sr.gr g1) h2
 |false=>rw[if_neg Bool.false_ne_true] at h2 ⊢;exact Po.ret (R:=rV X.K) g1.sub h2 (rep_bl.mpr rfl)
theorem pd_or {rest:List Expr}{f g:DSt->M D}(h:PEd X E a f)(h2:PEd X E (.BoolOp .Or (b::rest) pos) g):PEd X E (.BoolOp .Or (a::b::rest) pos) (eOr f g):=by
 obtain⟨t,p,q⟩:=h
 obtain⟨t2,p2,q2⟩:=h2
 refine⟨_,pe_or p p2,fun H0 B Hf sd σ H Q sr h=>?_⟩
 refine q H0 B Hf sd σ H _ sr (Po.bind h fun d v Hf1 H1 _ g1 rv h1=>?_)
 obtain⟨c,rfl,h2⟩:=Po.asB h1
 refine⟨c,rep_bl.mp rv,?_⟩
 cases c with
 |true=>rw[if_pos rfl] at h2 ⊢;exact Po.ret (R:=rV X.K) g1.sub h2 (rep_bl.mpr rfl)
 |false=>rw[if_neg Bool.false_ne_true] at h2 ⊢;exact q2 H0 B Hf1 sd σ H1 Q (sr.gr g1) h2
theorem pd_not {f:DSt->M D}(h:PEd X E a f):PEd X E (.UnaryOp .Not a pos) (eNot f):=by
 obtain⟨t,p,q⟩:=h
 refine⟨_,pe_not p,fun H0 B Hf sd σ H Q sr h=>?_⟩
 refine q H0 B Hf sd σ H _ sr (Po.bind h fun d v Hf1 H1 _ g1 rv h1=>?_)
 obtain⟨c,rfl,h2⟩:=Po.asB h1
 exact⟨c,rep_bl.mp rv,Po.ret (R:=rV X.K) g1.sub h2 (rep_bl.mpr rfl)⟩
theorem pd_ifexp {c:Expr}{f g:DSt->M D}{k:DSt->M Bool}(hc:PTd X E c k)(h:PEd X E a f)(h2:PEd X E b g):PEd X E (.IfExp c a b pos) (eIf k f g):=by
 obtain⟨t,p,q⟩:=hc
 obtain⟨t1,p1,q1⟩:=h
 obtain⟨t2,p2,q2⟩:=h2
 refine⟨_,pe_ifExp p p1 p2,fun H0 B Hf sd σ H Q sr h=>?_⟩
 refine q H0 B Hf sd σ H _ sr (Po.bind h fun c v Hf1 H1 _ g1 rv h1=>?_)
 have e:c=v:=rv
 subst e
 cases c with
 |true=>rw[if_pos rfl] at h1 ⊢;exact q1 H0 B Hf1 sd σ H1 Q (sr.gr g1) h1
 |false=>rw[if_neg Bool.false_ne_true] at h1 ⊢;exact q2 H0 B Hf1 sd σ H1 Q (sr.gr g1) h1
end
section
variable {X:Cx} {E:XK} {pos:Pos} {a b:Expr}
def Yl (sd:DSt):M O:=.ok (.nx sd)
def Zr (f g:DSt->M O)(sd:DSt):M O:=(f sd).bind fun o=>match o with
 |.nx sd'=>g sd'
 |o=>.ok o
theorem Z9:PSsd X E [] Yl:=⟨_,pss_nil,fun _ _ Hf _ _ _ _ sr h=>h _ Hf _ (Same.refl _) sr⟩
theorem Zk {st:Stmt}{f:DSt->M O}(h:PSd X E st f):PSsd X E [st] f:=by
 obtain⟨t,p,q⟩:=h
 exact⟨t,pss_one p,q⟩
theorem Zi {st:Stmt}{rest:List Stmt}{f g:DSt->M O}(h:PSd X E st f)(h2:PSsd X E rest g):PSsd X E (st::rest) (Zr f g):=by
 obtain⟨t,p,q⟩:=h
 obtain⟨t2,p2,q2⟩:=h2
 refine⟨_,pss_cons p p2,fun H0 B Hf sd σ H D sr h=>?_⟩
 refine q H0 B Hf sd σ H _ sr ?_
 unfold Zr at h
 cases e:f sd with
 |ok o =>
  rw[e] at h
  cases o with
  |nx sd'=>exact fun σ' Hf' H' e' sr'=>q2 H0 B Hf' sd' σ' H' D sr' (PoS.weak e' h)
  |rt s=>exact h
  |bk sd'=>exact h
  |ct sd'=>exact h
 |ex x=>rw[e] at h;exact h
 |bad=>rw[e] at h;exact h
def Qk (i:Nat)(f:DSt->M D)(sd:DSt):M O:=(f sd).bind fun d=>.ok (.nx (sd.set i (some (.im d))))
theorem Z7 (i:Nat){x:Str}{e:Expr}{f:DSt->M D}{pos':Pos}(hN:X.N.Nodup)(h:PEd X E e f)(hi:X.N[i]?=some x:=by rfl)(hx:Loc X.env.scope x:=by first|exact Or.inl rfl|exact Or.inr rfl)(hs:swapsWith e (some (.Name x pos')) pos.line X.env=pure false:=by rfl)(hf:X.fn x=true\/X.env.scope.names.lookup x=some .local:=by first|exact .inl rfl|exact .inr rfl|assumption) :
  PSd X E (.Assign [.Name x pos'] e pos) (Qk i f):=by
 obtain⟨t,p,q⟩:=h
 refine⟨_,ps_set hN hi hx p hs hf,fun H0 B Hf sd σ H D sr h=>?_⟩
 refine q H0 B Hf sd σ H _ sr (PoS.bind sr h fun d v Hf1 H1 _ g1 sr1 rv h1=>?_)
 exact h1 _ Hf1 H1 (Same.refl _) (sr1.set_im i rv)
def Qs (f:DSt->M D)(sd:DSt):M O:=(f sd).bind fun d=>.ok (.rt (.im d))
theorem Zq {e:Expr}{f:DSt->M D}(h:PEd X E e f):PSd X E (.Return (some e) pos) (Qs f):=by
 obtain⟨t,p,q⟩:=h
 refine⟨_,ps_ret p,fun H0 B Hf sd σ H D sr h=>?_⟩
 refine q H0 B Hf sd σ H _ sr (PoS.bind sr h fun d v Hf1 H1 _ g1 sr1 rv h1=>?_)
 exact h1 v Hf1 H1 (Same.refl _) sr1.fin rv
def sIf (c:DSt->M Bool)(f g:DSt->M O)(sd:DSt):M O:=(c sd).bind fun b=>if b then f sd else g sd
theorem Qd {c:Expr}{xs ys:List Stmt}{k:DSt->M Bool}{f g:DSt->M O}(hc:PTd X E c k)(h:PSsd X E xs f)(h2:PSsd X E ys g):PSd X E (.If c xs ys pos) (sIf k f g):=by
 obtain⟨t,p,q⟩:=hc
 obtain⟨t1,p1,q1⟩:=h
 obtain⟨t2,p2,q2⟩:=h2
 refine⟨_,ps_if p p1 p2,fun H0 B Hf sd σ H D sr h=>?_⟩
 refine q H0 B Hf sd σ H _ sr (PoS.bind (R:=rQ) sr h fun c v Hf1 H1 _ g1 sr1 rv h1=>?_)
 have e:c=v:=rv
 subst e
 cases c with
 |true=>rw[if_pos rfl] at h1 ⊢;exact q1 H0 B Hf1 sd σ H1 D sr1 h1
 |false=>rw[if_neg Bool.false_ne_true] at h1 ⊢;exact q2 H0 B Hf1 sd σ H1 D sr1 h1
open Classical in
end
end DL
set_option maxHeartbeats 4000000
namespace DL
open PySem PySem.Spec PyProof.Rows L2
section
variable {prog:Program} {w:World} {A:Around} {E:Value->Shared->Prop}
theorem draw_list {it t:Addr}{items:Array Value}(hne:t≠it):∀(n i:Nat) (s:Shared) (Q:List Value->Shared->Prop),s.heap.IsListIter it t i->s.heap.IsList t items->i+n<=items.size ->
  (∀h',h'.IsListIter it t (i+n)->Heap.SameBut it s.heap h'->Q ((items.toList.drop i).take n) { s with heap:=h' })->wpAny (model prog w) A (draw (.ref it) n) Q E s
 |0,i,s,Q,hit,_,_,hQ=>by
  show wpAny _ _ (pure []) Q E s
  exact wpAny_pure (by simpa using hQ s.heap hit (Heap.SameBut.refl ..))
 |n+1,i,s,Q,hit,ht,hle,hQ=>by
  have hlt:i<items.size:=by lia
  show wpAny _ _ (pyNext (.ref it)>>=_) Q E s
  refine wpAny_bind (wpAny_pyNext_list_item hit ht (x:=items[i]) (by simp[hlt]) fun h₁ hit₁ hs₁=>?_)
  refine wpAny_bind (wpAny_holding (draw_list hne n (i+1) _ _ hit₁ (ht.extBut hs₁.extBut hne) (by lia) fun h₂ hit₂ hs₂=>wpAny_pure ?_))
  have hd:items.toList.drop i=items[i]::items.toList.drop (i+1):=by simp[List.drop_eq_getElem_cons,hlt]
  have:=hQ h₂ (by rw[show i+(n+1)=i+1+n by lia];exact hit₂) (hs₁.trans hs₂)
  rw[hd,List.take_succ_cons] at this
  exact this
theorem unpackItems_list {s:Shared}{t:Addr}{items:Array Value}{Q:List Value->Shared->Prop}(hh:A.handled=none)(ht:s.heap.IsList t items)(hQ:∀h',Heap.ExtBut s.heap.objs.size s.heap h'->Q items.toList { s with heap:=h' }):wpAny (model prog w) A (unpackItems (.ref t) items.size none) Q E s:=by
 have hlt:t≠s.heap.objs.size:=by obtain⟨o,ho,_⟩:=ht;exact Nat.ne_of_lt (Heap.lt_size ho)
 unfold unpackItems
 refine wpAny_bind ?_
 ·unfold notIterableAtAll
  refine wpAny_bind (wpAny_specialOf ht.typeIs slot_list_iter.lookup ?_)
  refine wpAny_pure ?_
  simp only[Bool.false_eq_true,if_false]
  refine wpAny_bind (wpAny_holding (wpAny_pyIter_list ht ?_))
  refine wpAny_bind (wpAny_holding (draw_list hlt items.size 0 _ _ ⟨_,Heap.get?_push_size _ rfl,rfl,rfl⟩ (ht.push _) (by lia) fun h₁ hit₁ hs₁=>?_))
  have hall:List.take items.size (List.drop 0 items.toList)=items.toList:=by
   rw[List.drop_zero];exact List.take_of_length_le (by simp)
  rw[hall]
  rw[if_neg (by simp)]
  have ht₁:h₁.IsList t items:=(ht.push _).extBut hs₁.extBut hlt
  refine wpAny_bind (wpAny_holding (wpAny_pyNext_list_end hh hit₁ ht₁ (by simp) fun h₂ he₂=>?_))
  simp only[Option.isSome_none,Bool.false_eq_true,if_false]
  refine wpAny_pure (hQ h₂ fun b o hb e=>he₂ b o hb (hs₁.extBut b o hb (Heap.get?_push_of_some _ e)))
theorem assign_Tuple_list {s:Shared}{env:Env}{elts:List Expr}{x1}{pos:Pos}{t:Addr}{items:Array Value}{Q:Unit->Shared->Prop}(hh:A.handled=none)(ht:s.heap.IsList t items)(hn:(assignEach elts env).length=items.size)(hstar:(assignEach elts env).findIdx? (·.1)=none)(h:∀h',Heap.ExtBut s.heap.objs.size s.heap h'->wpAny (model prog w) A (assignInOrder ((assignEach elts env).map (·.2)) items.toList) Q E { s with heap:=h' }) :
  wpAny (model prog w) A (assign (.Tuple elts x1 pos) env (.ref t)) Q E s:=by
 rw[assign_Tuple]
 refine wpAny_bind (wpAny_standAt ?_)
 unfold unpack
 rw[hn,hstar]
 exact wpAny_bind (wpAny_holding (unpackItems_list hh ht h))
def chs (x:Str):List V:=x.cps.toList.map fun c=>V.str ⟨#[c]⟩
theorem draw_str {it:Addr}{x:Str}{t:Tok}:∀(n i:Nat) (s:Shared) (Q:List Value->Shared->Prop),s.heap.IsStrIter it "str_ascii_iterator" x t i->i+n<=x.cps.size ->
  (∀h' tk us,h'.IsStrIter it "str_ascii_iterator" x t (i+n)->Heap.SameBut it s.heap h'->Vals (((chs x).drop i).take n) us->Q us { s with heap:=h',toks:=tk })->wpAny (model prog w) A (draw (.ref it) n) Q E s
 |0,i,s,Q,hit,_,hQ=>by
  show wpAny _ _ (pure []) Q E s
  exact wpAny_pure (hQ s.heap s.toks [] hit (Heap.SameBut.refl ..) (by simpa using Paired.nil))
 |n+1,i,s,Q,hit,hle,hQ=>by
  have hlt:i<x.cps.size:=by lia
  show wpAny _ _ (pyNext (.ref it)>>=_) Q E s
  refine wpAny_bind (wpAny_pyNext_ascii_item hit (c:=x.cps[i]) (by simp[hlt]) fun h₁ hit₁ hs₁=>?_)
  refine wpAny_bind (wpAny_holding (draw_str n (i+1) _ _ hit₁ (by lia) fun h₂ tk us hit₂ hs₂ hv=>wpAny_pure ?_))
  have hd:(chs x).drop i=V.str ⟨#[x.cps[i]]⟩::(chs x).drop (i+1):=by
   have hl:i<(chs x).length:=by simp[chs,hlt]
   rw[List.drop_eq_getElem_cons hl];simp[chs]
  refine hQ h₂ tk _ (by rw[show i+(n+1)=i+1+n by lia];exact hit₂) (hs₁.trans hs₂) ?_
  rw[hd,List.take_succ_cons]
  exact .cons ⟨_,rfl⟩ hv
theorem unpackItems_str {s:Shared}{x:Str}{t:Tok}{Q:List Value->Shared->Prop}(hh:A.handled=none)(ha:x.cps.all (·<128)=true)(hQ:∀h' tk us,Heap.ExtBut s.heap.objs.size s.heap h'->Vals (chs x) us->Q us { s with heap:=h',toks:=tk }):wpAny (model prog w) A (unpackItems (.str x t) x.cps.size none) Q E s:=by
 unfold unpackItems
 refine wpAny_bind ?_
 ·unfold notIterableAtAll
  refine wpAny_bind (wpAny_specialOf (typeIs_str s x t) PySem.F.slot_str_iter.lookup ?_)
  refine wpAny_pure ?_
  simp only[Bool.false_eq_true,if_false]
  refine wpAny_bind (wpAny_holding (wpAny_pyIter_ascii ha ?_))
  refine wpAny_bind (wpAny_holding (draw_str x.cps.size 0 _ _ ⟨_,Heap.get?_push_size _ rfl,rfl,rfl⟩ (by lia) fun h₁ tk us hit₁ hs₁ hv=>?_))
  have hall:List.take x.cps.size (List.drop 0 (chs x))=chs x:=by
   rw[List.drop_zero];exact List.take_of_length_le (by simp[chs])
  rw[hall] at hv
  have hl:us.length=x.cps.size:=by rw[<-hv.length];simp[chs]
  rw[if_neg (by simp[hl])]
  refine wpAny_bind (wpAny_holding (wpAny_pyNext_ascii_end hh hit₁ (by simp) fun h₂ he₂=>?_))
  simp only[Option.isSome_none,Bool.false_eq_true,if_false]
  refine wpAny_pure (hQ h₂ tk us (fun b o hb e=>he₂ b o hb (hs₁.extBut b o hb (Heap.get?_push_of_some _ e))) hv)
theorem assign_Tuple_str {s:Shared}{env:Env}{elts:List Expr}{x1}{pos:Pos}{x:Str}{t:Tok}{Q:Unit->Shared->Prop}(hh:A.handled=none)(ha:x.cps.all (·<128)=true)(hn:(assignEach elts env).length=x.cps.size)(hstar:(assignEach elts env).findIdx? (·.1)=none)(h:∀h' tk us,Heap.ExtBut s.heap.objs.size s.heap h'->Vals (chs x) us->wpAny (model prog w) A (assignInOrder ((assignEach elts env).map (·.2)) us) Q E { s with heap:=h',toks:=tk }) :
  wpAny (model prog w) A (assign (.Tuple elts x1 pos) env (.str x t)) Q E s:=by
 rw[assign_Tuple]
 refine wpAny_bind (wpAny_standAt ?_)
 unfold unpack
 rw[hn,hstar]
 exact wpAny_bind (wpAny_holding (unpackItems_str hh ha h))
end
section
variable {X:Cx} {pos:Pos}
def gSeq (K:PySem.W.Frag)(n:Nat)(t:TGs):TG:=fun v σ H Q=>(∃a xs,v=.ref a/\(SqT K H a xs\/SqL K H a xs)/\xs.length=n/\t xs σ H Q)\/∃x:Str,v=.str x/\x.cps.all (·<128)=true/\x.cps.size=n/\t (chs x) σ H Q
theorem pg_seq {es:List Expr}{k:Nat}{t:TGs}{n:Nat}(hc:X.calm=true)(h:PGs X es t)(hn:(assignEach es X.env).length=n:=by rfl)(hst:(assignEach es X.env).findIdx? (·.1)=none:=by rfl):PG X (.Tuple es k pos) (gSeq X.K n t):=by
 intro pins s σ H v u Q I r hw
 rcases hw with⟨a,xs,e1,hq,hl,hw⟩|⟨x,e1,ha,hl,hw⟩
 case inr =>
  subst e1
  obtain⟨tk,rfl⟩:=(show ∃t,u=Value.str x t from r)
  refine assign_Tuple_str (I.ok.hd hc) ha (by rw[hn,hl]) hst fun h' tk us hx hv=>?_
  have I1:Inv X pins σ H { s with heap:=h',toks:=tk }:=I.kept (t':=tk) fun b o e=>hx b o (Nat.ne_of_lt (Heap.lt_size e)) e
  exact h pins _ σ H (chs x) _ Q I1 hv hw
 subst e1
 cases r
 rcases hq with hq|hq
 ·obtain⟨its,rv,ht,hz⟩:=I.tuple hq
  refine assign_Tuple_tuple (I.ok.hd hc) ht (by simp[hn,<-hl,rv.length]) hst fun h' hx=>?_
  have I1:Inv X pins σ H { s with heap:=h' }:=I.kept (t':=s.toks) fun b o e=>hx b o (Nat.ne_of_lt (Heap.lt_size e)) e
  exact h pins _ σ H xs _ Q I1 (by simpa using rv) hw
 ·obtain⟨its,rv,ht,hz⟩:=I.list hq
  refine assign_Tuple_list (I.ok.hd hc) ht.isList (by simp[hn,<-hl,rv.length]) hst fun h' hx=>?_
  have I1:Inv X pins σ H { s with heap:=h' }:=I.kept (t':=s.toks) fun b o e=>hx b o (Nat.ne_of_lt (Heap.lt_size e)) e
  exact h pins _ σ H xs _ Q I1 (by simpa using rv) hw
end
def PGd (X:Cx)(tg:Expr)(g:D->DSt->M DSt):Prop :=
 ∃t:TG,PG X tg t/\∀(H0:Hp) (B:Addr->Prop) (Hf:Hp) (sd:DSt) (σ:L2.St) (H:Hp) (v:V) (d:D) (sd':DSt) (Q:L2.St->Hp->Prop),SR X.K H0 B Hf sd σ H->Rep X.K Hf d v->g d sd=.ok sd' ->
  (∀σ',SR X.K H0 B Hf sd' σ' H->Q σ' H)->t v σ H Q
def PGsd (X:Cx)(ts:List Expr)(g:List D->DSt->M DSt):Prop :=
 ∃t:TGs,PGs X ts t/\∀(H0:Hp) (B:Addr->Prop) (Hf:Hp) (sd:DSt) (σ:L2.St) (H:Hp) (vs:List V) (ds:List D) (sd':DSt) (Q:L2.St->Hp->Prop),SR X.K H0 B Hf sd σ H->Reps X.K Hf ds vs->g ds sd=.ok sd' ->
  (∀σ',SR X.K H0 B Hf sd' σ' H->Q σ' H)->t vs σ H Q
section
variable {X:Cx} {E:XK} {pos:Pos} {a b:Expr}
def gNm (i:Nat)(d:D)(sd:DSt):M DSt:=.ok (sd.set i (some (.im d)))
theorem Zs (i:Nat){x:Str}(hN:X.N.Nodup)(hi:X.N[i]?=some x:=by rfl)(hx:Loc X.env.scope x:=by first|exact Or.inl rfl|exact Or.inr rfl)(hf:X.fn x=true\/X.env.scope.names.lookup x=some .local:=by first|exact .inl rfl|exact .inr rfl|assumption) :
  PGd X (.Name x pos) (gNm i):=by
 refine⟨_,pg_name hN hi hx hf,fun H0 B Hf sd σ H v d sd' Q sr r e h=>?_⟩
 cases e
 exact h _ (sr.set_im i r)
def gsNil:List D->DSt->M DSt
 |[],sd=>.ok sd
 |_,_=>.bad
def Qa (g:D->DSt->M DSt)(gs:List D->DSt->M DSt):List D->DSt->M DSt
 |d::ds,sd=>(g d sd).bind fun sd'=>gs ds sd'
 |_,_=>.bad
theorem pgsd_nil:PGsd X [] gsNil:=by
 refine⟨_,pgs_nil,fun H0 B Hf sd σ H vs ds sd' Q sr r e h=>?_⟩
 cases ds with
 |nil=>cases e;exact⟨reps_nil.mp r,h σ sr⟩
 |cons d ds=>cases e
theorem Qb {es:List Expr}{g:D->DSt->M DSt}{gs:List D->DSt->M DSt}(h1:PGd X a g)(h2:PGsd X es gs)(hs:(assignEach (a::es) X.env).map (·.2)=assign a X.env::(assignEach es X.env).map (·.2):=by rfl):PGsd X (a::es) (Qa g gs):=by
 obtain⟨t,p,q⟩:=h1
 obtain⟨t2,p2,q2⟩:=h2
 refine⟨_,pgs_cons p p2 hs,fun H0 B Hf sd σ H vs ds sd' Q sr r e h=>?_⟩
 cases ds with
 |nil=>cases e
 |cons d ds =>
  obtain⟨v,vr,rfl,rv,rr⟩:=reps_cons.mp r
  cases e1:g d sd with
  |ok sd1 =>
   have e':gs ds sd1=.ok sd':=by
    have e:(g d sd).bind (fun sd'=>gs ds sd')=.ok sd':=e
    rw[e1] at e
    exact e
   exact⟨v,vr,rfl,q H0 B Hf sd σ H v d sd1 _ sr rv e1 fun σ1 sr1=>q2 H0 B Hf sd1 σ1 H vr ds sd' Q sr1 rr e' h⟩
  |ex x=>have e:(g d sd).bind (fun sd'=>gs ds sd')=.ok sd':=e;rw[e1] at e;cases e
  |bad=>have e:(g d sd).bind (fun sd'=>gs ds sd')=.ok sd':=e;rw[e1] at e;cases e
def gTupD (n:Nat)(gs:List D->DSt->M DSt):D->DSt->M DSt
 |.tup ds,sd=>if ds.length=n then gs ds sd else .bad
 |.lst ds,sd=>if ds.length=n then gs ds sd else .bad
 |.str x,sd=>if x.cps.size=n/\x.cps.all (·<128)=true then gs (x.cps.toList.map fun c=>.str ⟨#[c]⟩) sd else .bad
 |_,_=>.bad
theorem reps_chs {K:PySem.W.Frag}{H:Hp}:∀l:List Nat,Reps K H (l.map fun c=>D.str ⟨#[c]⟩) (l.map fun c=>V.str ⟨#[c]⟩)
 |[]=>Reps.nil
 |_::l=>Reps.cons (rep_str.mpr rfl) (reps_chs l)
theorem pgd_tup {es:List Expr}{k:Nat}{gs:List D->DSt->M DSt}{n:Nat}(hc:X.calm=true)(h:PGsd X es gs)(hn:(assignEach es X.env).length=n:=by rfl)(hst:(assignEach es X.env).findIdx? (·.1)=none:=by rfl):PGd X (.Tuple es k pos) (gTupD n gs):=by
 obtain⟨t,p,q⟩:=h
 refine⟨_,pg_seq hc p hn hst,fun H0 B Hf sd σ H v d sd' Q sr r e h=>?_⟩
 unfold gTupD at e
 split at e
 ·rename_i ds
  split at e
  ·rename_i hl
   obtain⟨a,xs,rfl,ha,hr⟩:=Z8 r
   exact .inl ⟨a,xs,rfl,.inl (Same.seqT sr.sub ha),by rw[<-hr.length];exact hl,q H0 B Hf sd σ H xs ds sd' Q sr hr e h⟩
  ·cases e
 ·rename_i ds
  split at e
  ·rename_i hl
   obtain⟨a,xs,rfl,ha,hr⟩:=rep_lst.mp r
   exact .inl ⟨a,xs,rfl,.inr (sr.sub.seq ha),by rw[<-hr.length];exact hl,q H0 B Hf sd σ H xs ds sd' Q sr hr e h⟩
  ·cases e
 ·rename_i x
  split at e
  ·rename_i hl
   exact .inr ⟨x,rep_str.mp r,hl.2,hl.1,q H0 B Hf sd σ H (chs x) _ sd' Q sr (reps_chs x.cps.toList) e h⟩
  ·cases e
 ·cases e
def sAsg (f:DSt->M D)(g:D->DSt->M DSt)(sd:DSt):M O:=(f sd).bind fun d=>match g d sd with
 |.ok sd'=>.ok (.nx sd')
 |_=>.bad
theorem psd_asg {e tg:Expr}{f:DSt->M D}{g:D->DSt->M DSt}(h:PEd X E e f)(hg:PGd X tg g)(hs:swapsWithSole [tg] e pos.line X.env=pure false:=by rfl)(hw:swappedStores [tg] e X.env=pure none:=by rfl)(h1:(assignEach [tg] X.env).map (·.2)=[assign tg X.env]:=by rfl):PSd X E (.Assign [tg] e pos) (sAsg f g):=by
 obtain⟨t,p,q⟩:=h
 obtain⟨tg',pg,qg⟩:=hg
 refine⟨_,ps_asg p pg hs hw h1,fun H0 B Hf sd σ H D sr h=>?_⟩
 refine q H0 B Hf sd σ H _ sr (PoS.bind sr h fun d v Hf1 H1 _ g1 sr1 rv h1=>?_)
 split at h1
 ·rename_i sd' e1
  exact qg H0 B Hf1 sd σ H1 v d sd' _ sr1 rv e1 fun σ' sr'=>h1 σ' Hf1 H1 (Same.refl _) sr'
 ·exact h1.elim
def S.toD:S->M D
 |.im d=>.ok d
 |.ow ds=>.ok (.lst ds)
 |.od _=>.bad
 |.dk _=>.bad
 |.xc _=>.bad
 |.fn _=>.bad
def spN (K:PySem.W.Frag)(F:List D->M S):Sp:=fun vs H Q _=>∃Hf ds s,Same Hf H/\Reps K Hf ds vs/\F ds=.ok s/\∀v Hf' H',Gr Hf H Hf' H'->RS K H Hf' H' s v->Q v H'
def fin' (r:M O):M S:=r.bind fun o=>match o with
 |.rt s=>.ok s
 |.nx _=>.ok (.im .non)
 |_=>.bad
def fnD (n m:Nat)(f:DSt->M O)(ds:List D):M S:=if ds.length=n then fin' (f (ds.map (fun d=>some (S.im d))++List.replicate m none)) else .bad
theorem sr_start {K:PySem.W.Frag}{N:List Str}{Hf H:Hp}{ds:List D}{vs:List V}{m:Nat}(e:Same Hf H)(r:Reps K Hf ds vs)(hN:N.length=ds.length+m) :
  SR K H (fun a=>H a≠none/\Hf a=none) Hf (ds.map (fun d=>some (S.im d))++List.replicate m none) (L2.Yy N vs) H where
 sub:=e
 all:=Same.refl _
 ban:=fun _ h=>h.2
 bt:=fun _ h=>h.1
 len:=by
  unfold L2.Yy
  have:=r.length
  simp only[List.length_append,List.length_map,List.length_replicate]
  lia
 imS:=fun i d hi hz=>by
  unfold L2.Yy
  by_cases hl:i<ds.length
  ·rw[List.getElem?_append_left (by simpa using hl),List.getElem?_map] at hi
   cases q:ds[i]? with
   |none=>rw[q] at hi;cases hi
   |some d' =>
    rw[q] at hi
    cases hi
    obtain⟨v,e1,e2⟩:=r.get q
    refine⟨v,?_,e2⟩
    have:i<vs.length:=(List.getElem?_eq_some_iff.mp e1).1
    rw[List.getElem?_append_left (by simpa using this),List.getElem?_map,e1]
    rfl
  ·rw[List.getElem?_append_right (by simpa using hl),List.getElem?_replicate] at hi
   split at hi<;>cases hi
 ow:=fun i t hi ho=>by
  by_cases hl:i<ds.length
  ·rw[List.getElem?_append_left (by simpa using hl),List.getElem?_map] at hi
   cases q:ds[i]? with
   |none=>rw[q] at hi;cases hi
   |some d'=>rw[q] at hi;cases hi;cases ho
  ·rw[List.getElem?_append_right (by simpa using hl),List.getElem?_replicate] at hi
   split at hi<;>cases hi
 sep:=fun i j t _ p _ hi ho _ _ _ _=>by
  by_cases hl:i<ds.length
  ·rw[List.getElem?_append_left (by simpa using hl),List.getElem?_map] at hi
   cases q:ds[i]? with
   |none=>rw[q] at hi;cases hi
   |some d'=>rw[q] at hi;cases hi;cases ho
  ·rw[List.getElem?_append_right (by simpa using hl),List.getElem?_replicate] at hi
   split at hi<;>cases hi
theorem fn_d {P:Program}{w:World}{K:PySem.W.Frag}{mg:Str->Option Value}{base:Heap}{x qual:Str}{st:Stmt}{f:Addr}{fd:FuncData}{N ps:List Str}{k m n:Nat}{fb:DSt->M O}(F:Fun K x qual st f fd)(sc:FnScope N ps (Zh st))(hn:ps.length=n)(hN:N.length=n+m)(hbody:∀(cdv:Value) (A:Around) (outer:List Env) (s:Shared) (H:Hp) (E:XK),Room k (A.deeper (envOfC qual (Zh st) s.heap.objs.size f cdv)) ->
   PSsd (cxOf CX0 P w K mg base N qual (Zh st) f cdv A outer s H E).nox E0 (Zz st) fb):FnOk P w K mg base CX0 (k+1) f fd ps (spN K (fnD n m fb)):=by
 refine F.ok sc (fun vs H Q E h=>?_) (fun cdv A outer s H vs Q E hr h=>?_)
 ·obtain⟨Hf,ds,s,e,r,hF,_⟩:=h
  unfold fnD at hF
  split at hF
  ·rename_i hl
   rw[<-r.length,hl,hn]
  ·cases hF
 ·obtain⟨Hf,ds,s',e,r,hF,q⟩:=h
  obtain⟨t,p,qt⟩:=hbody cdv A outer s H E hr
  unfold fnD at hF
  split at hF
  ·rename_i hl
   refine⟨t,p,qt H _ Hf _ (L2.Yy N vs) H _ (sr_start (N:=N) (m:=m) e r (by lia)) ?_⟩
   generalize fb (List.map (fun d=>some (S.im d)) ds++List.replicate m none)=ro at hF
   have back:∀{v:V} {Hf' H':Hp} {s:DL.S},Same Hf Hf'->Fin' H (fun a=>H a≠none/\Hf a=none) Hf' H'->RS K H Hf' H' s v->s=s'->Q v H':=fun {v Hf' H' s} e1 e2 e3 e4=>by
    subst e4
    exact q v Hf' H' ⟨e1,e2.sub,e2.all,fun a h1 h2=>e2.ban a ⟨h1,h2⟩⟩ e3
   cases ro with
   |ok o =>
    cases o with
    |rt s2 =>
     have e':s2=s':=by cases hF;rfl
     exact fun v Hf' H' e1 e2 e3=>back e1 e2 e3 e'
    |nx sd' =>
     have e':DL.S.im .non=s':=by cases hF;rfl
     exact fun σ' Hf' H' e1 sr'=>back (v:=.non) (s:=DL.S.im .non) e1 sr'.fin (show Rep K Hf' .non .non from rep_non.mpr rfl) e'
    |bk sd'=>cases hF
    |ct sd'=>cases hF
   |ex x=>cases hF
   |bad=>cases hF
  ·cases hF
def Z0 (F:List D->M S)(fs:DSt->M (List D))(sd:DSt):M D:=(fs sd).bind fun ds=>match F ds with
 |.ok s=>s.toD
 |_=>.bad
theorem Z1 {k:Nat}{f:Addr}{fd:FuncData}{ps:List Str}{F:List D->M S}{x:Str}{p:Pos}{es:List Expr}{fs:DSt->M (List D)}(G:FnOk X.prog X.w X.K X.mg X.base CX0 k f fd ps (spN X.K F))(hr:Room k X.A)(hm:X.mg x=some (.ref f))(hk:PySem.W.keepIn X.K (.ref f)=true)(hb:Binds X.K fd ps [])(ha:PAd X E (a::es) fs)(hg:Gl X x:=by rfl) (hdb:(x==("__debug__" : Str))=false:=by decide) (he:starEach (a::es) X.env=(false,eval a X.env)::starEach es X.env:=by rfl) (hpl:(backTo pos (starEach es X.env)).any (·.1)=false:=by rfl) :
  PEd X E (.Call (.Name x p) (a::es) [] pos) (Z0 F fs):=by
 obtain⟨t,pt,qt⟩:=ha
 refine⟨_,pe_call (dvs:=[]) (E:=E0) G hr hg hm hk hb .nil pass0 pt hdb he hpl,fun H0 B Hf sd σ H Q sr h=>?_⟩
 refine qt H0 B Hf sd σ H _ sr (Po.bind h fun ds vs Hf1 H1 _ g1 rs h1=>?_)
 split at h1
 ·rename_i s e
  refine⟨Hf1,ds,s,g1.sub,by rw[List.append_nil];exact rs,e,fun v Hf' H' g2 rv=>?_⟩
  cases s with
  |im d=>exact h1 v Hf' H' g2 rv
  |ow es =>
   obtain⟨p,rfl,e1,e2,xs,e3,e4⟩:=rv
   refine h1 _ (upd Hf' p (.lst xs)) H' ⟨g2.fz.trans (Z4 e2 _),fun b u q=>?_,g2.all,fun a h1 h2=>?_⟩ (rep_lst.mpr ⟨p,xs,rfl,SqL.of Zo,e4.mono (Z4 e2 _)⟩)
   ·by_cases hb:b=p
    ·subst hb;rw[Zo] at q;rw[e3];exact q
    ·rw[Zn hb] at q;exact g2.sub b u q
   ·have:a≠p:=fun z=>h1 (z▸e1)
    rw[Zn this];exact g2.ban a h1 h2
  |od kvs=>exact h1.elim
  |dk kvs=>exact h1.elim
  |xc x=>exact h1.elim
  |fn x=>exact h1.elim
 ·exact h1.elim
end
end DL
set_option maxHeartbeats 4000000
namespace DL
open PySem PySem.Spec PyProof.Rows L2
mutual
def D.eq:D->D->Bool
 |.non,.non=>true
 |.bl a,.bl b=>a==b
 |.bl a,.int b=>(if a then 1 else 0)==b
 |.int a,.bl b=>a==(if b then 1 else 0)
 |.int a,.int b=>a==b
 |.str a,.str b=>a==b
 |.tup xs,.tup ys=>D.eqs xs ys
 |.lst xs,.lst ys=>D.eqs xs ys
 |_,_=>false
def D.eqs:List D->List D->Bool
 |[],[]=>true
 |x::xs,y::ys=>D.eq x y&&D.eqs xs ys
 |_,_=>false
end
mutual
def D.dep:D->Nat
 |.tup ds=>D.deps ds+1
 |.lst ds=>D.deps ds+1
 |_=>0
def D.deps:List D->Nat
 |[]=>0
 |d::ds=>max (D.dep d) (D.deps ds)
end
mutual
theorem D.eq_refl:∀d:D,D.eq d d=true
 |.non=>by rw[D.eq]
 |.bl b=>by rw[D.eq];simp
 |.int i=>by rw[D.eq];simp
 |.str x=>by rw[D.eq];simp
 |.tup ds=>by rw[D.eq];exact D.eqs_refl ds
 |.lst ds=>by rw[D.eq];exact D.eqs_refl ds
theorem D.eqs_refl:∀ds:List D,D.eqs ds ds=true
 |[]=>by rw[D.eqs]
 |d::ds=>by rw[D.eqs,D.eq_refl d,D.eqs_refl ds];rfl
end
theorem D.eqs_all:∀ds es:List D,D.eqs ds es=((List.range (min ds.length es.length)).all (fun j=>D.eq (ds.getD j .non) (es.getD j .non))&&ds.length==es.length)
 |[],[]=>by rw[D.eqs];rfl
 |[],_::_=>by rw[D.eqs];simp;all_goals (intros;simp_all)
 |_::_,[]=>by rw[D.eqs];simp;all_goals (intros;simp_all)
 |d::ds,e::es=>by
  have h:min (d::ds).length (e::es).length=min ds.length es.length+1:=by simp only[List.length_cons];lia
  rw[D.eqs,D.eqs_all ds es,h,List.range_succ_eq_map,List.all_cons,List.all_map,Bool.and_assoc]
  congr 1
  simp only[List.length_cons]
  congr 1
  by_cases q:ds.length=es.length
  ·simp[q]
  ·have q':¬ds.length+1=es.length+1:=by lia
   simp[q]
section
variable {X:Cx} {pins:List (Addr×Obj)} {σ:L2.St} {H:Hp} {s:Shared}
theorem seq_tl (I:Inv X pins σ H s){a:Addr}{xs ys:List V}(h1:SqT X.K H a xs)(h2:SqL X.K H a ys):False:=by
 obtain⟨its,_,⟨o,e,c,_⟩,_⟩:=I.tuple h1
 obtain⟨its2,_,p,_⟩:=I.list h2
 obtain⟨o2,e2,c2,_⟩:=p.isList
 rw[e] at e2
 cases e2
 rw[c] at c2
 exact absurd c2 (by decide)
mutual
theorem rep_inj (I:Inv X pins σ H s):∀(d d':D) (v:V),Rep X.K H d v->Rep X.K H d' v->d=d'
 |.non,d',v,h1,h2=>by
  rw[rep_non] at h1;subst h1
  cases d' with
  |non=>rfl
  |bl b=>rw[rep_bl] at h2;cases h2
  |int b=>rw[rep_int] at h2;cases h2
  |str b=>rw[rep_str] at h2;cases h2
  |tup b=>rw[rep_tup] at h2;obtain⟨_,_,e,_⟩:=h2;cases e
  |lst b=>rw[rep_lst] at h2;obtain⟨_,_,e,_⟩:=h2;cases e
 |.bl a,d',v,h1,h2=>by
  rw[rep_bl] at h1;subst h1
  cases d' with
  |non=>rw[rep_non] at h2;cases h2
  |bl b=>rw[rep_bl] at h2;cases h2;rfl
  |int b=>rw[rep_int] at h2;cases h2
  |str b=>rw[rep_str] at h2;cases h2
  |tup b=>rw[rep_tup] at h2;obtain⟨_,_,e,_⟩:=h2;cases e
  |lst b=>rw[rep_lst] at h2;obtain⟨_,_,e,_⟩:=h2;cases e
 |.int a,d',v,h1,h2=>by
  rw[rep_int] at h1;subst h1
  cases d' with
  |non=>rw[rep_non] at h2;cases h2
  |bl b=>rw[rep_bl] at h2;cases h2
  |int b=>rw[rep_int] at h2;cases h2;rfl
  |str b=>rw[rep_str] at h2;cases h2
  |tup b=>rw[rep_tup] at h2;obtain⟨_,_,e,_⟩:=h2;cases e
  |lst b=>rw[rep_lst] at h2;obtain⟨_,_,e,_⟩:=h2;cases e
 |.str a,d',v,h1,h2=>by
  rw[rep_str] at h1;subst h1
  cases d' with
  |non=>rw[rep_non] at h2;cases h2
  |bl b=>rw[rep_bl] at h2;cases h2
  |int b=>rw[rep_int] at h2;cases h2
  |str b=>rw[rep_str] at h2;cases h2;rfl
  |tup b=>rw[rep_tup] at h2;obtain⟨_,_,e,_⟩:=h2;cases e
  |lst b=>rw[rep_lst] at h2;obtain⟨_,_,e,_⟩:=h2;cases e
 |.tup ds,d',v,h1,h2=>by
  obtain⟨a,xs,rfl,ha,hr⟩:=Z8 h1
  cases d' with
  |non=>rw[rep_non] at h2;cases h2
  |bl b=>rw[rep_bl] at h2;cases h2
  |int b=>rw[rep_int] at h2;cases h2
  |str b=>rw[rep_str] at h2;cases h2
  |tup es =>
   obtain⟨b,ys,e,hb,hr2⟩:=Z8 h2
   cases e
   have:=I.tuple_inj ha hb
   subst this
   rw[reps_inj I ds es xs hr hr2]
  |lst es =>
   obtain⟨b,ys,e,hb,hr2⟩:=rep_lst.mp h2
   cases e
   exact(seq_tl I ha hb).elim
 |.lst ds,d',v,h1,h2=>by
  obtain⟨a,xs,rfl,ha,hr⟩:=rep_lst.mp h1
  cases d' with
  |non=>rw[rep_non] at h2;cases h2
  |bl b=>rw[rep_bl] at h2;cases h2
  |int b=>rw[rep_int] at h2;cases h2
  |str b=>rw[rep_str] at h2;cases h2
  |tup es =>
   obtain⟨b,ys,e,hb,hr2⟩:=Z8 h2
   cases e
   exact(seq_tl I hb ha).elim
  |lst es =>
   obtain⟨b,ys,e,hb,hr2⟩:=rep_lst.mp h2
   cases e
   have:=I.list_inj ha hb
   subst this
   rw[reps_inj I ds es xs hr hr2]
theorem reps_inj (I:Inv X pins σ H s):∀(ds es:List D) (vs:List V),Reps X.K H ds vs->Reps X.K H es vs->ds=es
 |[],[],_,_,_=>rfl
 |[],e::es,vs,h1,h2=>by
  rw[reps_nil] at h1;subst h1
  obtain⟨_,_,z,_⟩:=reps_cons.mp h2
  cases z
 |d::ds,[],vs,h1,h2=>by
  rw[reps_nil] at h2;subst h2
  obtain⟨_,_,z,_⟩:=reps_cons.mp h1
  cases z
 |d::ds,e::es,vs,h1,h2=>by
  obtain⟨v,r,rfl,a1,a2⟩:=reps_cons.mp h1
  obtain⟨v',r',z,b1,b2⟩:=reps_cons.mp h2
  cases z
  rw[rep_inj I d e v a1 b1,reps_inj I ds es r a2 b2]
end
theorem EqAt.of_eq {A:Around}{u v:Value}{b c:Bool}(h:SeqAt.EqAt A s u v b)(e:b=c):SeqAt.EqAt A s u v c:=e▸h
structure Cm (A:Around) (s:Shared) (u v:Value) (b:Bool):Prop where
 rc:SeqAt.RcAt A s u v b
 ne:SeqAt.RcNeAt A s u v (!b)
 eq:SeqAt.EqAt A s u v b
mutual
theorem cmp_at (I:Inv X pins σ H s):∀(x y:D) (A:Around) (v w:V) (u1 u2:Value),A.units+x.dep<cLine->Rep X.K H x v->Rep X.K H y w->RelV v u1->RelV w u2->Cm A s u1 u2 (D.eq x y)
 |.non,y,A,v,w,u1,u2,hu,rx,ry,r1,r2=>by
  rw[rep_non] at rx;subst rx
  have r1:u1=Value.none:=r1
  subst r1
  have hu':A.units<cLine:=by lia
  cases y with
  |non=>rw[rep_non] at ry;subst ry;cases (show u2=Value.none from r2);rw[D.eq];exact⟨.none_none,.none_none,.same _⟩
  |bl b=>rw[rep_bl] at ry;subst ry;cases (show u2=Value.bool b from r2);rw[D.eq];exact⟨.none_bool b,.none_bool b,.none_bool b⟩;all_goals (intros;simp_all)
  |int b=>rw[rep_int] at ry;subst ry;obtain⟨t,q⟩:=(show ∃t,u2=Value.int b t from r2);subst q;rw[D.eq];exact⟨.none_int b t,.none_int b t,.none_int b t⟩;all_goals (intros;simp_all)
  |str b=>rw[rep_str] at ry;subst ry;obtain⟨t,q⟩:=(show ∃t,u2=Value.str b t from r2);subst q;rw[D.eq];exact⟨.none_str b t,.none_str b t,.none_str b t⟩;all_goals (intros;simp_all)
  |tup es =>
   obtain⟨p,xs,rfl,hp,hr⟩:=Z8 ry
   cases (show u2=Value.ref p from r2)
   obtain⟨its,_,ht,_⟩:=I.tuple hp
   rw[D.eq]
   exact⟨.none_tuple ht hu',.none_tuple ht hu',.none_tuple ht hu'⟩
   all_goals (intros;simp_all)
  |lst es =>
   obtain⟨p,xs,rfl,hp,hr⟩:=rep_lst.mp ry
   cases (show u2=Value.ref p from r2)
   obtain⟨its,_,ht,_⟩:=I.list hp
   rw[D.eq]
   exact⟨.none_list ht.isList hu',.none_list ht.isList hu',.none_list ht.isList hu'⟩
   all_goals (intros;simp_all)
 |.bl a,y,A,v,w,u1,u2,hu,rx,ry,r1,r2=>by
  rw[rep_bl] at rx;subst rx
  have r1:u1=Value.bool a:=r1
  subst r1
  have hu':A.units<cLine:=by lia
  cases y with
  |non=>rw[rep_non] at ry;subst ry;cases (show u2=Value.none from r2);rw[D.eq];exact⟨.bool_none a,.bool_none a,.bool_none a⟩;all_goals (intros;simp_all)
  |bl b=>rw[rep_bl] at ry;subst ry;cases (show u2=Value.bool b from r2);rw[D.eq];exact⟨.bool_bool a b,.bool_bool a b,.bool_bool a b⟩
  |int b=>rw[rep_int] at ry;subst ry;obtain⟨t,q⟩:=(show ∃t,u2=Value.int b t from r2);subst q;rw[D.eq];exact⟨.bool_int a b t,.bool_int a b t,.bool_int a b t⟩
  |str b=>rw[rep_str] at ry;subst ry;obtain⟨t,q⟩:=(show ∃t,u2=Value.str b t from r2);subst q;rw[D.eq];exact⟨.bool_str a b t,.bool_str a b t,.bool_str a b t⟩;all_goals (intros;simp_all)
  |tup es =>
   obtain⟨p,xs,rfl,hp,hr⟩:=Z8 ry
   cases (show u2=Value.ref p from r2)
   obtain⟨its,_,ht,_⟩:=I.tuple hp
   rw[D.eq]
   exact⟨.bool_tuple a ht hu',.bool_tuple a ht hu',.bool_tuple a ht hu'⟩
   all_goals (intros;simp_all)
  |lst es =>
   obtain⟨p,xs,rfl,hp,hr⟩:=rep_lst.mp ry
   cases (show u2=Value.ref p from r2)
   obtain⟨its,_,ht,_⟩:=I.list hp
   rw[D.eq]
   exact⟨.bool_list a ht.isList hu',.bool_list a ht.isList hu',.bool_list a ht.isList hu'⟩
   all_goals (intros;simp_all)
 |.int a,y,A,v,w,u1,u2,hu,rx,ry,r1,r2=>by
  rw[rep_int] at rx;subst rx
  obtain⟨t1,q1⟩:=(show ∃t,u1=Value.int a t from r1)
  subst q1
  have hu':A.units<cLine:=by lia
  cases y with
  |non=>rw[rep_non] at ry;subst ry;cases (show u2=Value.none from r2);rw[D.eq];exact⟨.int_none a t1,.int_none a t1,.int_none a t1⟩;all_goals (intros;simp_all)
  |bl b=>rw[rep_bl] at ry;subst ry;cases (show u2=Value.bool b from r2);rw[D.eq];exact⟨.int_bool a t1 b,.int_bool a t1 b,.int_bool a t1 b⟩
  |int b=>rw[rep_int] at ry;subst ry;obtain⟨t,q⟩:=(show ∃t,u2=Value.int b t from r2);subst q;rw[D.eq];exact⟨.int_int a t1 b t,.int_int a t1 b t,.int_int a t1 b t⟩
  |str b=>rw[rep_str] at ry;subst ry;obtain⟨t,q⟩:=(show ∃t,u2=Value.str b t from r2);subst q;rw[D.eq];exact⟨.int_str a t1 b t,.int_str a t1 b t,.int_str a t1 b t⟩;all_goals (intros;simp_all)
  |tup es =>
   obtain⟨p,xs,rfl,hp,hr⟩:=Z8 ry
   cases (show u2=Value.ref p from r2)
   obtain⟨its,_,ht,_⟩:=I.tuple hp
   rw[D.eq]
   exact⟨.int_tuple a t1 ht hu',.int_tuple a t1 ht hu',.int_tuple a t1 ht hu'⟩
   all_goals (intros;simp_all)
  |lst es =>
   obtain⟨p,xs,rfl,hp,hr⟩:=rep_lst.mp ry
   cases (show u2=Value.ref p from r2)
   obtain⟨its,_,ht,_⟩:=I.list hp
   rw[D.eq]
   exact⟨.int_list a t1 ht.isList hu',.int_list a t1 ht.isList hu',.int_list a t1 ht.isList hu'⟩
   all_goals (intros;simp_all)
 |.str a,y,A,v,w,u1,u2,hu,rx,ry,r1,r2=>by
  rw[rep_str] at rx;subst rx
  obtain⟨t1,q1⟩:=(show ∃t,u1=Value.str a t from r1)
  subst q1
  have hu':A.units<cLine:=by lia
  cases y with
  |non=>rw[rep_non] at ry;subst ry;cases (show u2=Value.none from r2);rw[D.eq];exact⟨.str_none a t1,.str_none a t1,.str_none a t1⟩;all_goals (intros;simp_all)
  |bl b=>rw[rep_bl] at ry;subst ry;cases (show u2=Value.bool b from r2);rw[D.eq];exact⟨.str_bool a t1 b,.str_bool a t1 b,.str_bool a t1 b⟩;all_goals (intros;simp_all)
  |int b=>rw[rep_int] at ry;subst ry;obtain⟨t,q⟩:=(show ∃t,u2=Value.int b t from r2);subst q;rw[D.eq];exact⟨.str_int a t1 b t,.str_int a t1 b t,.str_int a t1 b t⟩;all_goals (intros;simp_all)
  |str b=>rw[rep_str] at ry;subst ry;obtain⟨t,q⟩:=(show ∃t,u2=Value.str b t from r2);subst q;rw[D.eq];exact⟨.str_str a t1 b t,.str_str a t1 b t,.str_str a t1 b t⟩
  |tup es =>
   obtain⟨p,xs,rfl,hp,hr⟩:=Z8 ry
   cases (show u2=Value.ref p from r2)
   obtain⟨its,_,ht,_⟩:=I.tuple hp
   rw[D.eq]
   exact⟨.str_tuple a t1 ht hu',.str_tuple a t1 ht hu',.str_tuple a t1 ht hu'⟩
   all_goals (intros;simp_all)
  |lst es =>
   obtain⟨p,xs,rfl,hp,hr⟩:=rep_lst.mp ry
   cases (show u2=Value.ref p from r2)
   obtain⟨its,_,ht,_⟩:=I.list hp
   rw[D.eq]
   exact⟨.str_list a t1 ht.isList hu',.str_list a t1 ht.isList hu',.str_list a t1 ht.isList hu'⟩
   all_goals (intros;simp_all)
 |.tup ds,y,A,v,w,u1,u2,hu,rx,ry,r1,r2=>by
  rw[D.dep] at hu
  have hu':A.units<cLine:=by lia
  obtain⟨p1,xs1,rfl,hp1,hr1⟩:=Z8 rx
  cases (show u1=Value.ref p1 from r1)
  obtain⟨its1,rv1,ht1,_⟩:=I.tuple hp1
  cases y with
  |non=>rw[rep_non] at ry;subst ry;cases (show u2=Value.none from r2);rw[D.eq];exact⟨.tuple_none ht1 hu',.tuple_none ht1 hu',.tuple_none ht1 hu'⟩;all_goals (intros;simp_all)
  |bl b=>rw[rep_bl] at ry;subst ry;cases (show u2=Value.bool b from r2);rw[D.eq];exact⟨.tuple_bool b ht1 hu',.tuple_bool b ht1 hu',.tuple_bool b ht1 hu'⟩;all_goals (intros;simp_all)
  |int b=>rw[rep_int] at ry;subst ry;obtain⟨t,q⟩:=(show ∃t,u2=Value.int b t from r2);subst q;rw[D.eq];exact⟨.tuple_int b t ht1 hu',.tuple_int b t ht1 hu',.tuple_int b t ht1 hu'⟩;all_goals (intros;simp_all)
  |str b=>rw[rep_str] at ry;subst ry;obtain⟨t,q⟩:=(show ∃t,u2=Value.str b t from r2);subst q;rw[D.eq];exact⟨.tuple_str b t ht1 hu',.tuple_str b t ht1 hu',.tuple_str b t ht1 hu'⟩;all_goals (intros;simp_all)
  |tup es =>
   obtain⟨p2,xs2,rfl,hp2,hr2⟩:=Z8 ry
   cases (show u2=Value.ref p2 from r2)
   obtain⟨its2,rv2,ht2,_⟩:=I.tuple hp2
   have l1:its1.toArray.size=ds.length:=by rw[List.size_toArray,<-rv1.length,<-hr1.length]
   have l2:its2.toArray.size=es.length:=by rw[List.size_toArray,<-rv2.length,<-hr2.length]
   have items:=cmps_at I ds es A.in1 xs1 xs2 its1 its2 (by show A.units+1+_<_;lia) hr1 hr2 rv1 rv2
   have he:∀j (h1:j<its1.toArray.size) (h2:j<its2.toArray.size),SeqAt.EqAt A.in1 s its1.toArray[j] its2.toArray[j] (D.eq (ds.getD j .non) (es.getD j .non)):=fun j h1 h2=>by
    refine items j _ _ _ _ ?_ ?_ ?_ ?_
    ·rw[List.getD_eq_getElem?_getD,List.getElem?_eq_getElem (by lia)];simp
    ·rw[List.getD_eq_getElem?_getD,List.getElem?_eq_getElem (by lia)];simp
    ·simp
    ·simp
   have rc:=SeqAt.RcAt.tuples ht1 ht2 hu' he
   have ne:=SeqAt.RcNeAt.tuples ht1 ht2 hu' he
   rw[l1,l2,<-D.eqs_all] at rc ne
   rw[D.eq]
   refine⟨rc,ne,?_⟩
   by_cases hpp:p1=p2
   ·subst hpp
    have:=rep_inj I _ _ _ rx ry
    cases this
    rw[D.eqs_refl]
    exact .same _
   ·exact .of_refs hpp rc
  |lst es =>
   obtain⟨p2,xs2,rfl,hp2,hr2⟩:=rep_lst.mp ry
   cases (show u2=Value.ref p2 from r2)
   obtain⟨its2,rv2,ht2,_⟩:=I.list hp2
   rw[D.eq]
   exact⟨.tuple_list ht1 ht2.isList hu',.tuple_list ht1 ht2.isList hu',.tuple_list ht1 ht2.isList hu'⟩
   all_goals (intros;simp_all)
 |.lst ds,y,A,v,w,u1,u2,hu,rx,ry,r1,r2=>by
  rw[D.dep] at hu
  have hu':A.units<cLine:=by lia
  obtain⟨p1,xs1,rfl,hp1,hr1⟩:=rep_lst.mp rx
  cases (show u1=Value.ref p1 from r1)
  obtain⟨its1,rv1,pl1,_⟩:=I.list hp1
  have ht1:=pl1.isList
  cases y with
  |non=>rw[rep_non] at ry;subst ry;cases (show u2=Value.none from r2);rw[D.eq];exact⟨.list_none ht1 hu',.list_none ht1 hu',.list_none ht1 hu'⟩;all_goals (intros;simp_all)
  |bl b=>rw[rep_bl] at ry;subst ry;cases (show u2=Value.bool b from r2);rw[D.eq];exact⟨.list_bool b ht1 hu',.list_bool b ht1 hu',.list_bool b ht1 hu'⟩;all_goals (intros;simp_all)
  |int b=>rw[rep_int] at ry;subst ry;obtain⟨t,q⟩:=(show ∃t,u2=Value.int b t from r2);subst q;rw[D.eq];exact⟨.list_int b t ht1 hu',.list_int b t ht1 hu',.list_int b t ht1 hu'⟩;all_goals (intros;simp_all)
  |str b=>rw[rep_str] at ry;subst ry;obtain⟨t,q⟩:=(show ∃t,u2=Value.str b t from r2);subst q;rw[D.eq];exact⟨.list_str b t ht1 hu',.list_str b t ht1 hu',.list_str b t ht1 hu'⟩;all_goals (intros;simp_all)
  |tup es =>
   obtain⟨p2,xs2,rfl,hp2,hr2⟩:=Z8 ry
   cases (show u2=Value.ref p2 from r2)
   obtain⟨its2,rv2,ht2,_⟩:=I.tuple hp2
   rw[D.eq]
   exact⟨.list_tuple ht1 ht2 hu',.list_tuple ht1 ht2 hu',.list_tuple ht1 ht2 hu'⟩
   all_goals (intros;simp_all)
  |lst es =>
   obtain⟨p2,xs2,rfl,hp2,hr2⟩:=rep_lst.mp ry
   cases (show u2=Value.ref p2 from r2)
   obtain⟨its2,rv2,pl2,_⟩:=I.list hp2
   have ht2:=pl2.isList
   have l1:its1.toArray.size=ds.length:=by rw[List.size_toArray,<-rv1.length,<-hr1.length]
   have l2:its2.toArray.size=es.length:=by rw[List.size_toArray,<-rv2.length,<-hr2.length]
   have items:=cmps_at I ds es A.in1 xs1 xs2 its1 its2 (by show A.units+1+_<_;lia) hr1 hr2 rv1 rv2
   have he:∀j (h1:j<its1.toArray.size) (h2:j<its2.toArray.size),SeqAt.EqAt A.in1 s its1.toArray[j] its2.toArray[j] (D.eq (ds.getD j .non) (es.getD j .non)):=fun j h1 h2=>by
    refine items j _ _ _ _ ?_ ?_ ?_ ?_
    ·rw[List.getD_eq_getElem?_getD,List.getElem?_eq_getElem (by lia)];simp
    ·rw[List.getD_eq_getElem?_getD,List.getElem?_eq_getElem (by lia)];simp
    ·simp
    ·simp
   have both:SeqAt.RcAt A s (.ref p1) (.ref p2) (D.eqs ds es)/\SeqAt.RcNeAt A s (.ref p1) (.ref p2) (!D.eqs ds es):=by
    by_cases hl:ds.length=es.length
    ·have rc:=SeqAt.RcAt.lists ht1 ht2 (by lia) hu' he
     have ne:=SeqAt.RcNeAt.lists ht1 ht2 (by lia) hu' he
     have e:D.eqs ds es=(List.range its1.toArray.size).all fun j=>D.eq (ds.getD j .non) (es.getD j .non):=by
      rw[D.eqs_all,l1,<-hl,Nat.min_self];simp
     rw[e]
     exact⟨rc,ne⟩
    ·have e:D.eqs ds es=false:=by rw[D.eqs_all];simp[hl]
     rw[e]
     have hs:(its1.toArray.size != its2.toArray.size)=true:=by rw[l1,l2];simpa using hl
     exact⟨.lists_lengths ht1 ht2 hs hu',.lists_lengths ht1 ht2 hs hu'⟩
   rw[D.eq]
   refine⟨both.1,both.2,?_⟩
   by_cases hpp:p1=p2
   ·subst hpp
    have:=rep_inj I _ _ _ rx ry
    cases this
    rw[D.eqs_refl]
    exact .same _
   ·exact .of_refs hpp both.1
theorem cmps_at (I:Inv X pins σ H s):∀(ds es:List D) (A:Around) (vs ws:List V) (us1 us2:List Value),A.units+D.deps ds<cLine->Reps X.K H ds vs->Reps X.K H es ws->Vals vs us1->Vals ws us2 ->
  ∀(j:Nat) (d e:D) (u1 u2:Value),ds[j]?=some d->es[j]?=some e->us1[j]?=some u1->us2[j]?=some u2->SeqAt.EqAt A s u1 u2 (D.eq d e)
 |[],_,_,_,_,_,_,_,_,_,_,_,j,_,_,_,_,h,_,_,_=>by simp at h
 |_::_,[],_,_,_,_,_,_,_,_,_,_,j,_,_,_,_,_,h,_,_=>by simp at h
 |d0::ds,e0::es,A,vs,ws,us1,us2,hu,r1,r2,v1,v2,j,d,e,u1,u2,h1,h2,h3,h4=>by
  rw[D.deps] at hu
  obtain⟨x,xr,rfl,a1,a2⟩:=reps_cons.mp r1
  obtain⟨y,yr,rfl,b1,b2⟩:=reps_cons.mp r2
  cases v1 with
  |cons c1 c2 =>
   cases v2 with
   |cons d1 d2 =>
    cases j with
    |zero =>
     simp at h1 h2 h3 h4
     subst h1 h2 h3 h4
     exact(cmp_at I d0 e0 A x y _ _ (by lia) a1 b1 c1 d1).eq
    |succ j =>
     simp at h1 h2 h3 h4
     exact cmps_at I ds es A xr yr _ _ (by lia) a2 b2 c2 d2 j d e u1 u2 h1 h2 h3 h4
end
end
section
variable {X:Cx} {E:XK} {pos:Pos} {a b:Expr}
def gEq (x y:D):M D:=if x.dep<=60 then .ok (.bl (D.eq x y)) else .bad
def gNe (x y:D):M D:=if x.dep<=60 then .ok (.bl (!D.eq x y)) else .bad
theorem Yi (hu:X.A.units+64<cLine):OpD X E (compareOp .Eq) gEq:=by
 refine⟨fun x y H Q=>∃dx dy,Rep X.K H dx x/\Rep X.K H dy y/\dx.dep<=60/\Q (.bl (D.eq dx dy)) H,fun pins s σ H x y v u Q I rx ry h=>?_,fun Hf H x y dx dy Q e rx ry q=>?_⟩
 ·obtain⟨dx,dy,h1,h2,h3,q⟩:=h
  exact(cmp_at I dx dy X.A x y v u (by lia) h1 h2 rx ry).rc _ _ _ _ ⟨.bl _,H,I,rfl,q⟩
 ·unfold gEq at q
  split at q
  ·rename_i hd
   exact⟨dx,dy,rx.mono e,ry.mono e,hd,Po.ret e q (rep_bl.mpr rfl)⟩
  ·exact q.elim
theorem od_ne (hu:X.A.units+64<cLine):OpD X E (compareOp .NotEq) gNe:=by
 refine⟨fun x y H Q=>∃dx dy,Rep X.K H dx x/\Rep X.K H dy y/\dx.dep<=60/\Q (.bl (!D.eq dx dy)) H,fun pins s σ H x y v u Q I rx ry h=>?_,fun Hf H x y dx dy Q e rx ry q=>?_⟩
 ·obtain⟨dx,dy,h1,h2,h3,q⟩:=h
  exact(cmp_at I dx dy X.A x y v u (by lia) h1 h2 rx ry).ne _ _ _ _ ⟨.bl _,H,I,rfl,q⟩
 ·unfold gNe at q
  split at q
  ·rename_i hd
   exact⟨dx,dy,rx.mono e,ry.mono e,hd,Po.ret e q (rep_bl.mpr rfl)⟩
  ·exact q.elim
end
end DL
set_option maxHeartbeats 4000000
namespace DL
open PySem PySem.Spec PyProof.Rows L2
def tyD:D->String
 |.non => "NoneType"
 |.bl _ => "bool"
 |.int _ => "int"
 |.str _ => "str"
 |.tup _ => "tuple"
 |.lst _ => "list"
def isD (T:String):D->Bool
 |.non=>false
 |.bl _=>T == "bool" || T == "int"
 |.int _=>T == "int"
 |.str _=>T == "str"
 |.tup _=>T == "tuple"
 |.lst _=>T == "list"
theorem kit_ok (K:PySem.W.Frag)(d:D){T:String} (hT:T∈["int", "bool", "tuple", "list", "str"]):PySem.W.kitOne K (.type (tyD d)) (.type T)=some (isD T d):=by
 simp only[List.mem_cons,List.not_mem_nil,or_false] at hT
 rcases hT with rfl|rfl|rfl|rfl|rfl<;>cases d<;>rfl
section
variable {X:Cx} {E:XK} {pos:Pos} {a b:Expr}
theorem call_isinst {T:String} (hT:T∈["int", "bool", "tuple", "list", "str"]):CallR X (.builtin "isinstance") (fun xs H Q=>∃x d,xs=[x,.ty T]/\Rep X.K H d x/\Q (.bl (isD T d)) H):=by
 intro pins s σ H xs us Q I r h
 obtain⟨x,d,rfl,hx,q⟩:=h
 obtain⟨u,w',rfl,r1,r2⟩:=vals2 r
 cases (show w'=Value.type T from r2)
 have e:=kit_ok X.K d hT
 have fin:∀tk,EP X pins σ Q (.bool (isD T d)) { s with toks:=tk }:=fun tk=>⟨.bl _,H,I.tok _,rfl,q⟩
 cases d with
 |non=>rw[rep_non] at hx;subst hx;cases (show u=Value.none from r1);exact PySem.W.kia_one PySem.W.kitx_none I.kIn True.intro e (fun z=>nomatch z) fin
 |bl y=>rw[rep_bl] at hx;subst hx;cases (show u=Value.bool y from r1);exact PySem.W.kia_one PySem.W.kitx_bool I.kIn True.intro e (fun z=>nomatch z) fin
 |int y=>rw[rep_int] at hx;subst hx;obtain⟨t,z⟩:=(show ∃t,u=Value.int y t from r1);subst z;exact PySem.W.kia_one PySem.W.kitx_int I.kIn True.intro e (fun z=>nomatch z) fin
 |str y=>rw[rep_str] at hx;subst hx;obtain⟨t,z⟩:=(show ∃t,u=Value.str y t from r1);subst z;exact PySem.W.kia_one PySem.W.kitx_str I.kIn True.intro e (fun z=>nomatch z) fin
 |tup ds =>
  obtain⟨p,ys,rfl,hp,hr⟩:=Z8 hx
  cases (show u=Value.ref p from r1)
  obtain⟨its,_,⟨o,h1,h2,_⟩,_⟩:=I.tuple hp
  exact PySem.W.kia_one PySem.W.kitx_tuple I.kIn ⟨o,h1,h2⟩ e (fun z=>nomatch z) fin
 |lst ds =>
  obtain⟨p,ys,rfl,hp,hr⟩:=rep_lst.mp hx
  cases (show u=Value.ref p from r1)
  obtain⟨its,_,pl,_⟩:=I.list hp
  obtain⟨o,h1,h2,_⟩:=pl.isList
  exact PySem.W.kia_one PySem.W.kitx_list I.kIn ⟨o,h1,h2⟩ e (fun z=>nomatch z) fin
def eIs (T:String)(f:DSt->M D)(sd:DSt):M D:=(f sd).bind fun d=>.ok (.bl (isD T d))
theorem Xk (T:String){p p2:Pos}{f:DSt->M D} (hg:Gl X "isinstance") (hm:X.mg "isinstance" = none) (hmT:X.mg (Str.ofString T)=none) (hgT:Gl X (Str.ofString T)) (hvT:bootBuiltins (Str.ofString T)=some (.type T)) (h:PEd X E a f)
  (hT:T∈["int", "bool", "tuple", "list", "str"]:=by decide) (hnT:(Str.ofString T) ≠ "__name__" := by decide) (hdT:((Str.ofString T)==("__debug__" : Str))=false:=by decide)
  (he:starEach [a,.Name (Str.ofString T) p2] X.env=(false,eval a X.env)::starEach [.Name (Str.ofString T) p2] X.env:=by rfl) (he2:starEach [.Name (Str.ofString T) p2] X.env=(false,eval (.Name (Str.ofString T) p2) X.env)::starEach [] X.env:=by rfl)
  (hpl:(backTo pos (starEach [.Name (Str.ofString T) p2] X.env)).any (·.1)=false:=by rfl) (hv:bootBuiltins "isinstance" = some (.builtin "isinstance"):=by rfl) :
  PEd X E (.Call (.Name "isinstance" p) [a,.Name (Str.ofString T) p2] [] pos) (eIs T f):=by
 obtain⟨t,pt,qt⟩:=h
 refine⟨_,pe_callB (call_isinst hT) hg hm hv (pa_cons pt (pa_cons (pe_bltn (v:=.ty T) hgT hmT hvT rfl hnT hdT) pa_nil he2) he) (by decide) (by decide) he hpl,fun H0 B Hf sd σ H Q sr h=>?_⟩
 refine qt H0 B Hf sd σ H _ sr (Po.bind h fun d v Hf1 H1 _ g1 rv h1=>?_)
 exact⟨v,d,rfl,Rep.mono g1.sub rv,Po.ret (R:=rV X.K) g1.sub h1 (rep_bl.mpr rfl)⟩
theorem op_catS:OpR X (binaryOp .Add) (fun x y H Q=>∃l b xs zs,x=.ref l/\y=.ref b/\SqL X.K H l xs/\SqL X.K H b zs/\xs.length+zs.length<=sizeLine/\∀p,H p=none->Q (.ref p) (upd H p (.lst (xs++zs)))):=by
 intro pins s σ H x y v u Q I rx ry h
 obtain⟨l,b,xs,zs,rfl,rfl,hH,hB,hz,q⟩:=h
 cases rx
 cases ry
 obtain⟨its,r,pl,z⟩:=I.list hH
 obtain⟨its2,r2,pl2,z2⟩:=I.list hB
 have l1:=r.length
 have l2:=r2.length
 obtain⟨⟨cls,dd,data,sl⟩,ho,hc,n,hd⟩:=pl.isList
 obtain⟨⟨cls2,dd2,data2,sl2⟩,ho2,hc2,n2,hd2⟩:=pl2.isList
 simp only at hc hd hc2 hd2
 subst hc hd hc2 hd2
 have e:its.toArray++its2.toArray=(its++its2).toArray:=by simp
 refine concat_meets ⟨_,ho,rfl⟩ ⟨_,ho2,rfl⟩ noFill_list_add seq_list_add PySem.F.slot_list_add PySem.F.entry_list_add (PySem.F.args_list_add_2 _ _) (list_addW l b its.toArray its2.toArray n n2 dd dd2 sl sl2 (by rw[List.size_toArray,List.size_toArray];lia)) ⟨ho,ho2,?_⟩
 rw[e]
 exact⟨.ref _,_,I.lnew (t':=s.toks) (r.append r2) (by rw[List.length_append];lia),rfl,q _ I.fresh⟩
def Zu:D->D->M D
 |.int i,.int j=>.ok (.int (i+j))
 |.lst xs,.lst ys=>if few (xs++ys) then .ok (.lst (xs++ys)) else .bad
 |.tup (x::xs),.tup ys=>if few (x::xs++ys) then .ok (.tup (x::xs++ys)) else .bad
 |.str i,.str j=>if i.length+j.length<=sizeLine then .ok (.str (i++j)) else .bad
 |_,_=>.bad
theorem Qi:OpD X E (binaryOp .Add) Zu:=by
 refine⟨_,op_add.or (op_catS.or (op_catT.or op_add_str)),fun Hf H x y dx dy Q e rx ry q=>?_⟩
 unfold Zu at q
 split at q
 ·rename_i i j
  exact .inl ⟨i,j,rep_int.mp rx,rep_int.mp ry,Po.ret e q (rep_int.mpr rfl)⟩
 ·rename_i xs ys
  split at q
  ·rename_i hf
   obtain⟨p1,us,rfl,h1,r1⟩:=rep_lst.mp rx
   obtain⟨p2,ws,rfl,h2,r2⟩:=rep_lst.mp ry
   have hl:=few_line hf (r1.append r2)
   rw[List.length_append] at hl
   exact .inr (.inl ⟨p1,p2,us,ws,rfl,rfl,e.seq h1,e.seq h2,hl,fun p hp=>q _ _ _ (Gr.alloc e hp _) (Gr.lst e hp (r1.append r2))⟩)
  ·exact q.elim
 ·rename_i x0 xs ys
  split at q
  ·rename_i hf
   obtain⟨p1,us,rfl,h1,r1⟩:=Z8 rx
   obtain⟨p2,ws,rfl,h2,r2⟩:=Z8 ry
   have hl:=few_line hf (r1.append r2)
   rw[List.length_append] at hl
   have hne:us≠[]:=fun z=>by
    have:=r1.length
    rw[z] at this
    cases this
   refine .inr (.inr (.inl ⟨p1,p2,us,ws,rfl,rfl,Same.seqT e h1,Same.seqT e h2,hne,hl,fun z=>?_,fun _ p hp=>q _ _ _ (Gr.alloc e hp _) (Gr.tup e hp (r1.append r2))⟩))
   subst z
   have:ys=[]:=List.length_eq_zero_iff.mp r2.length
   subst this
   rw[List.append_nil] at q
   exact Po.ret e q rx
  ·exact q.elim
 ·rename_i i j
  split at q
  ·rename_i hl
   exact .inr (.inr (.inr ⟨i,j,rep_str.mp rx,rep_str.mp ry,hl,Po.ret e q (rep_str.mpr rfl)⟩))
  ·exact q.elim
 ·exact q.elim
def Yw:D->D->M D:=gMul
theorem od_times:OpD X E (binaryOp .Mult) Yw:=od_mul
def cutD (ds:List D)(lo hi:Option Int):List D:=(ds.drop (HT.sIx ds.length 0 lo)).take (HT.sIx ds.length ds.length hi - HT.sIx ds.length 0 lo)
theorem cut_reps {K:PySem.W.Frag}{H:Hp}{ds:List D}{xs:List V}(r:Reps K H ds xs)(lo hi:Option Int):Reps K H (cutD ds lo hi) (cutV xs lo hi):=by
 unfold cutD cutV
 rw[<-r.length]
 exact(r.drop _).take _
def gSl:D->Option Int->Option Int->M D
 |.lst ds,lo,hi=>.ok (.lst (cutD ds lo hi))
 |.tup ds,lo,hi=>if HT.sIx ds.length 0 lo=0/\HT.sIx ds.length ds.length hi=ds.length then .bad else .ok (.tup (cutD ds lo hi))
 |_,_,_=>.bad
def Y6 (_:DSt):M (Option Int):=.ok none
def Y7 (f:DSt->M D)(sd:DSt):M (Option Int):=(f sd).bind fun d=>match d with
 |.int i=>.ok (some i)
 |_=>.bad
theorem pod_none:POd X E none Y6:=⟨_,po_none,fun _ _ _ _ _ _ _ sr h=>Po.ret (R:=rQ) sr.sub h rfl⟩
theorem pod_some {e:Expr}{f:DSt->M D}(h:PEd X E e f):POd X E (some e) (Y7 f):=by
 obtain⟨t,p,q⟩:=h
 refine⟨_,po_some p,fun H0 B Hf sd σ H Q sr h=>?_⟩
 refine q H0 B Hf sd σ H _ sr (Po.bind h fun d v Hf1 H1 _ g1 rv h1=>?_)
 split at h1
 ·exact⟨_,rep_int.mp rv,Po.ret (R:=rQ) g1.sub h1 rfl⟩
 ·exact h1.elim
def eSl (f:DSt->M D)(lo hi:DSt->M (Option Int))(sd:DSt):M D:=(f sd).bind fun d=>(lo sd).bind fun l=>(hi sd).bind fun h=>gSl d l h
theorem pd_slice {e:Expr}{lo hi:Option Expr}{p2:Pos}{f:DSt->M D}{fl fh:DSt->M (Option Int)}(h:PEd X E e f)(hl:POd X E lo fl)(hh:POd X E hi fh):PEd X E (.Subscript e (.Slice lo hi none p2) pos) (eSl f fl fh):=by
 obtain⟨t,p,q⟩:=h
 obtain⟨tl,pl,ql⟩:=hl
 obtain⟨th,ph,qh⟩:=hh
 refine⟨_,pe_slice (sl_list.or sl_tup) p pl ph,fun H0 B Hf sd σ H Q sr h=>?_⟩
 refine q H0 B Hf sd σ H _ sr (Po.bind h fun d v Hf1 H1 _ g1 rv h1=>?_)
 refine ql H0 B Hf1 sd σ H1 _ (sr.gr g1) (Po.bind h1 fun l l' Hf2 H2 _ g2 el h2=>?_)
 have el:l=l':=el
 subst el
 refine qh H0 B Hf2 sd σ H2 _ ((sr.gr g1).gr g2) (Po.bind h2 fun u u' Hf3 H3 _ g3 eu h3=>?_)
 have eu:u=u':=eu
 subst eu
 have rv3:=(Rep.mono g3.fz (Rep.mono g2.fz rv))
 unfold gSl at h3
 split at h3
 ·rename_i ds
  obtain⟨a,xs,rfl,ha,hr⟩:=rep_lst.mp rv3
  exact .inl ⟨a,xs,rfl,g3.sub.seq ha,fun p hp=>h3 _ _ _ (Gr.alloc g3.sub hp _) (Gr.lst g3.sub hp (cut_reps hr _ _))⟩
 ·rename_i ds
  split at h3
  ·exact h3.elim
  ·rename_i hw
   obtain⟨a,xs,rfl,ha,hr⟩:=Z8 rv3
   exact .inr ⟨a,xs,rfl,Same.seqT g3.sub ha,by rw[<-hr.length];exact hw,fun p hp=>h3 _ _ _ (Gr.alloc g3.sub hp _) (Gr.tup g3.sub hp (cut_reps hr _ _))⟩
 ·exact h3.elim
def ItOk (K:PySem.W.Frag)(Hf _H:Hp)(ds:List D)(J:It):Prop:=∀(i:Nat) (Hf1 H1:Hp),Same Hf Hf1->Same Hf1 H1->match ds[i]? with
 |some d=>J.go i H1/\∀x H2,J.yld i H1 x H2->∃Hf2,Gr Hf1 H1 Hf2 H2/\Rep K Hf2 d x
 |none=>J.stop i H1
def PId (X:Cx)(E:XK)(tg iter:Expr)(fi:DSt->M (List D)):Prop :=
 ∃wi:TI,PI X tg iter wi/\∀(H0:Hp) (B:Addr->Prop) (Hf:Hp) (sd:DSt) (σ:L2.St) (H:Hp) (R:It->Hp->Prop),SR X.K H0 B Hf sd σ H->Po X.K E (ItOk X.K) Hf H (fi sd) R->wi σ H R
theorem itl_ok {K:PySem.W.Frag}{Hf H:Hp}{a:Addr}{xs:List V}{ds:List D}(h:SqL K Hf a xs)(r:Reps K Hf ds xs):ItOk K Hf H ds (Itl K a):=by
 intro i Hf1 H1 e1 e2
 have h2:=e2.seq (e1.seq h)
 cases q:ds[i]? with
 |some d =>
  obtain⟨x,ex,rx⟩:=r.get q
  refine⟨⟨xs,x,h2,ex⟩,fun y H2 hy=>?_⟩
  obtain⟨e,hy⟩:=hy
  subst e
  have ey:=hy xs h2
  rw[ex] at ey
  cases ey
  exact⟨Hf1,Gr.refl e2,rx.mono e1⟩
 |none =>
  refine⟨xs,h2,?_⟩
  have:=r.none_of q
  exact List.getElem?_eq_none_iff.mp this
theorem itt_ok {K:PySem.W.Frag}{Hf H:Hp}{a:Addr}{xs:List V}{ds:List D}(h:SqT K Hf a xs)(r:Reps K Hf ds xs):ItOk K Hf H ds (Itt K a):=by
 intro i Hf1 H1 e1 e2
 have h2:=Same.seqT e2 (Same.seqT e1 h)
 cases q:ds[i]? with
 |some d =>
  obtain⟨x,ex,rx⟩:=r.get q
  refine⟨⟨xs,x,h2,ex⟩,fun y H2 hy=>?_⟩
  obtain⟨e,hy⟩:=hy
  subst e
  have ey:=hy xs h2
  rw[ex] at ey
  cases ey
  exact⟨Hf1,Gr.refl e2,rx.mono e1⟩
 |none =>
  refine⟨xs,h2,?_⟩
  have:=r.none_of q
  exact List.getElem?_eq_none_iff.mp this
def rangeD (lo:Int)(n:Nat):List D:=(List.range n).map fun k=>.int (lo+(k:Nat))
theorem itr_ok {K:PySem.W.Frag}{Hf H:Hp}(lo:Int)(n:Nat):ItOk K Hf H (rangeD lo n) (Itr lo n):=by
 intro i Hf1 H1 e1 e2
 unfold rangeD
 rw[List.getElem?_map]
 by_cases hi:i<n
 ·rw[List.getElem?_range hi]
  refine⟨hi,fun y H2 hy=>?_⟩
  obtain⟨e,hy⟩:=hy
  subst e
  exact⟨Hf1,Gr.refl e2,rep_int.mpr hy⟩
 ·rw[List.getElem?_eq_none (by simpa using hi)]
  exact Nat.le_of_not_lt hi
def iSeq (f:DSt->M D)(sd:DSt):M (List D):=(f sd).bind fun d=>match d with
 |.lst ds=>.ok ds
 |.tup ds=>.ok ds
 |_=>.bad
theorem pi_seq {tg l:Expr}{tl:TE}(hl:PE X l tl):PI X tg l (fun σ H R=>tl σ H fun x H1=>(∃a,x=.ref a/\(∃xs,SqL X.K H1 a xs)/\R (Itl X.K a) H1)\/∃a,x=.ref a/\(∃xs,SqT X.K H1 a xs)/\R (Itt X.K a) H1):=by
 intro pins s σ H R I h
 refine thn (hl pins s σ H _ I h) fun v s1 ⟨x,H1,I1,r1,q1⟩=>?_
 rcases q1 with⟨a,e,⟨xs,hq⟩,q⟩|⟨a,e,⟨xs,hq⟩,q⟩
 ·subst e
  cases r1
  obtain⟨its,rv,p,hz⟩:=I1.list hq
  refine wpAny_pyIter_list p.isList ?_
  refine⟨s1.heap.objs.size,[s1.heap.objs.size],_,_,H1,rfl,I1.kept (t':=s1.toks) fun b o e=>Heap.get?_push_of_some _ e,turn_list a _,⟨_,Heap.get?_push_size _ rfl,rfl,rfl⟩,fun b hb=>?_,q⟩
  have e:b=s1.heap.objs.size:=by simpa using hb
  subst e
  exact I1.fpOk (Nat.le_refl _) (I1.hok.fresh (Nat.le_refl _))
 ·subst e
  cases r1
  obtain⟨its,rv,p,hz⟩:=I1.tuple hq
  refine wpAny_pyIter_tuple (show s1.heap.IsTuple a its.toArray from p) ?_
  refine⟨s1.heap.objs.size,[s1.heap.objs.size],_,_,H1,rfl,I1.kept (t':=s1.toks) fun b o e=>Heap.get?_push_of_some _ e,turn_tuple a _,⟨_,Heap.get?_push_size _ rfl,rfl,rfl⟩,fun b hb=>?_,q⟩
  have e:b=s1.heap.objs.size:=by simpa using hb
  subst e
  exact I1.fpOk (Nat.le_refl _) (I1.hok.fresh (Nat.le_refl _))
theorem pid_seq {tg l:Expr}{f:DSt->M D}(h:PEd X E l f):PId X E tg l (iSeq f):=by
 obtain⟨t,p,q⟩:=h
 refine⟨_,pi_seq p,fun H0 B Hf sd σ H R sr h=>?_⟩
 refine q H0 B Hf sd σ H _ sr (Po.bind h fun d v Hf1 H1 _ g1 rv h1=>?_)
 split at h1
 ·rename_i ds
  obtain⟨a,xs,rfl,ha,hr⟩:=rep_lst.mp rv
  exact .inl ⟨a,rfl,⟨xs,g1.sub.seq ha⟩,Po.ret (R:=ItOk X.K) g1.sub h1 (itl_ok ha hr)⟩
 ·rename_i ds
  obtain⟨a,xs,rfl,ha,hr⟩:=Z8 rv
  exact .inr ⟨a,rfl,⟨xs,Same.seqT g1.sub ha⟩,Po.ret (R:=ItOk X.K) g1.sub h1 (itt_ok ha hr)⟩
 ·exact h1.elim
def Yj (fs:DSt->M (List D))(sd:DSt):M (List D):=(fs sd).bind fun ds=>match ds with
 |[.int j]=>if -1000000<=j/\j<=1000000 then .ok (rangeD 0 j.toNat) else .bad
 |_=>.bad
theorem Y3 {tg a:Expr}{p:Pos}{fs:DSt->M (List D)} (hg:Gl X "range") (hm:X.mg "range" = none) (h:PAd X E [a] fs) (hs:starEach [a] X.env=[(false,eval a X.env)]:=by rfl):PId X E tg (.Call (.Name "range" p) [a] [] pos) (Yj fs):=by
 obtain⟨t,pt,q⟩:=h
 refine⟨_,pi_range1 hg hm pt hs,fun H0 B Hf sd σ H R sr h=>?_⟩
 refine q H0 B Hf sd σ H _ sr (Po.bind h fun ds vs Hf1 H1 _ g1 rs h1=>?_)
 split at h1
 ·split at h1
  ·rename_i hj
   obtain⟨v,rfl,rv⟩:=reps1 rs
   rw[rep_int.mp rv]
   exact⟨_,rfl,by lia,by lia,Po.ret (R:=ItOk X.K) g1.sub h1 (itr_ok 0 _)⟩
  ·exact h1.elim
 ·exact h1.elim
def Q0 (g:D->DSt->M DSt)(f:DSt->M O):List D->DSt->M O
 |[],sd=>.ok (.nx sd)
 |d::r,sd=>match g d sd with
  |.ok sd1=>(f sd1).bind fun o=>match o with
   |.nx sd2=>Q0 g f r sd2
   |.ct sd2=>Q0 g f r sd2
   |.bk sd2=>.ok (.nx sd2)
   |.rt s=>.ok (.rt s)
  |_=>.bad
def sFor (fi:DSt->M (List D))(g:D->DSt->M DSt)(f:DSt->M O)(sd:DSt):M O:=(fi sd).bind fun ds=>Q0 g f ds sd
theorem Yk {tg iter:Expr}{body:List Stmt}{fi:DSt->M (List D)}{g:D->DSt->M DSt}{f:DSt->M O}(hp:PassesOwn (model X.prog X.w) X.A X.env X.xe)(hc:X.calm=true)(hi:PId X E tg iter fi)(hg:PGd X tg g)(hb:PSsd X E body f)(hs:∀x,foldedSetIterable iter X.env x=pure x:=by intro _;rfl):PSd X E (.For tg iter body [] pos) (sFor fi g f):=by
 obtain⟨wi,pw,qw⟩:=hi
 obtain⟨tg',pg,qg⟩:=hg
 obtain⟨tb,pb,qb⟩:=hb
 refine⟨_,ps_for hp hc pw pg pb hs,fun H0 B Hf sd σ H D sr h=>?_⟩
 refine qw H0 B Hf sd σ H _ sr (PoS.bind sr h fun ds J Hf1 H1 _ g1 sr1 J1 h1=>?_)
 refine⟨fun i m σ' H'=>m=ds.length - i/\∃Hf' sd',Same Hf1 Hf'/\SR X.K H0 B Hf' sd' σ' H'/\PoS X.K E H0 B Hf' (Q0 g f (ds.drop i) sd') D,⟨ds.length,by simp,Hf1,sd,Same.refl _,sr1,by simpa using h1⟩,?_⟩
 rintro i m σ2 H2 ⟨rfl,Hf2,sd2,e2,sr2,h2⟩
 have jj:=J1 i Hf2 H2 e2 sr2.sub
 cases q:ds[i]? with
 |none =>
  rw[q] at jj
  refine .inl ⟨jj,?_⟩
  rw[List.drop_eq_nil_of_le (List.getElem?_eq_none_iff.mp q)] at h2
  exact h2 σ2 Hf2 H2 (Same.refl _) sr2
 |some d =>
  rw[q] at jj
  obtain⟨go,yl⟩:=jj
  have hlt:i<ds.length:=(List.getElem?_eq_some_iff.mp q).1
  have hd:ds.drop i=d::ds.drop (i+1):=by
   rw[List.drop_eq_getElem_cons hlt]
   congr 1
   exact(List.getElem?_eq_some_iff.mp q).2
  rw[hd] at h2
  refine .inr ⟨go,fun σ' H'=>∃Hf' sd',Same Hf1 Hf'/\SR X.K H0 B Hf' sd' σ' H'/\PoS X.K E H0 B Hf' (Q0 g f (ds.drop (i+1)) sd') D,fun σ' H' w=>⟨ds.length - (i+1),by lia,rfl,w⟩,fun x H3 y3=>?_⟩
  obtain⟨Hf3,g3,rx⟩:=yl x H3 y3
  have sr3:=sr2.gr g3
  unfold Q0 at h2
  split at h2
  ·rename_i sd3 eg
   refine qg H0 B Hf3 sd2 σ2 H3 x d sd3 _ sr3 rx eg fun σ4 sr4=>?_
   refine qb H0 B Hf3 sd3 σ4 H3 _ sr4 ?_
   have h2:=PoS.weak g3.fz h2
   cases ef:f sd3 with
   |ok o =>
    rw[ef] at h2
    cases o with
    |nx sd'=>exact fun σ' Hf' H' e' sr'=>⟨Hf',sd',e2.trans (g3.fz.trans e'),sr',PoS.weak e' h2⟩
    |ct sd'=>exact fun σ' Hf' H' e' sr'=>⟨Hf',sd',e2.trans (g3.fz.trans e'),sr',PoS.weak e' h2⟩
    |bk sd'=>exact h2
    |rt s=>exact h2
   |ex x=>rw[ef] at h2;exact h2
   |bad=>rw[ef] at h2;exact h2
  ·exact h2.elim
end
end DL
set_option maxHeartbeats 4000000
namespace DL
open PySem PySem.Spec PyProof.Rows L2
theorem codeAny_comp_any {prog:Program}{w:World}{A:Around}{R:Result->Shared->Prop}{s:Shared}{elt target iter:Expr}{scope:Scope}{pos:Pos}{it acc:Value}{env:Env}(I:Nat->Shared->Prop)
  (turn:∀n s,I n s->wpAny (model prog w) A (pyNext it) (fun r s₁=>match r with
   |none=>R (.ok .next) s₁
   |some v=>wpAny (model prog w) A (letOwnedTupleGo target it v) (fun _ s₂=>wpAny (model prog w) A (assign target env v) (fun _ s₃=>wpAny (model prog w) A (eval elt env) (fun x s₄ =>
     wpAny (model prog w) A (call (.builtin "list.append") [acc,x]) (fun _ s₅=>∃m,m<n/\I m s₅) (fun _ _=>False) s₄) (fun _ _=>False) s₃) (fun _ _=>False) s₂) (fun _ _=>False) s₁) (fun _ _=>False) s)
  (n:Nat) (h:I n s) :
  codeAny (model prog w) A (.compLoop (.ListComp elt [⟨target,iter,[],0⟩] scope pos) 0 it acc env) R s:=by
 refine codeAny_loop rfl I (fun n s hI=>?_) n h
 show wpAny _ A ((compTurn (.ListComp elt [⟨target,iter,[],0⟩] scope pos) 0 it acc env).onRaise (fun x=>do noteFrame x env;theTreesLotGoes x)) _ _ s
 refine wpAny_noted ?_
 rw[compTurn_list]
 refine wpAny_bind (wpAny_standAt (wpAny_bind (wpAny_mono (turn n s hI) (fun r s₁ h₁=>?_) fun _ _ h'=>h'.elim)))
 cases r with
 |none=>exact wpAny_pure h₁
 |some v =>
  refine wpAny_bind (wpAny_mono h₁ (fun _ s₂ h₂=>?_) fun _ _ h'=>h'.elim)
  refine wpAny_bind (wpAny_mono h₂ (fun _ s₃ h₃=>?_) fun _ _ h'=>h'.elim)
  refine wpAny_bind (wpAny_tests_nil ?_)
  exact wpAny_bind (wpAny_bind (wpAny_mono h₃ (fun x s₄ h₄=>wpAny_bind (wpAny_mono h₄ (fun _ s₅ h₅=>wpAny_pure (wpAny_pure ⟨rfl,h₅⟩)) fun _ _ h'=>h'.elim)) fun _ _ h'=>h'.elim))
def compCx (X:Cx)(Nc:List Str)(scope:Scope)(cl:List (Str×Addr))(s3:Shared)(H3:Hp)(C:Addr)(ex:List Addr):Cx :=
 { X with N:=Nc,s₀:=s3,H₀:=H3,env:=compEnvC scope cl C X.env,outer:=X.stack,stack:=X.stack,ex:=ex,fn:=fun _=>false,pn:=[],xe:=fun _ _=>False }
structure CapOk (X:Cx) (Nc:List Str) (n0:Nat) (caps:List Nat) (scope:Scope) (cl:List (Str×Addr)):Prop where
 sub:∀y c,cl.lookup y=some c->X.env.cells.lookup y=some c
 has:∀y,(relabel scope X.env).names.lookup y=some .cell\/(relabel scope X.env).names.lookup y=some .free->∃c,cl.lookup y=some c
 cap:∀(i j:Nat) (x:Str),Nc[n0+i]?=some x->caps[i]?=some j->X.N[j]?=some x/\X.env.scope.names.lookup x=some .cell/\(relabel scope X.env).names.lookup x=some .cell
 len:Nc.length=n0+caps.length
def Qj:Obj:={ cls:=.type "list", dict:=none,data:=.seq ([]:List Value).toArray }
section
variable {X:Cx} {pins:List (Addr×Obj)} {σ:L2.St} {H2:Hp} {s2:Shared} {Nc:List Str} {n0:Nat} {caps:List Nat} {scope:Scope} {cl:List (Str×Addr)} {fp:List Addr}
theorem comp_inv (I2:Inv X pins σ H2 s2)(f2:∀b∈fp,FpOk X pins H2 b)(hold:∀b∈fp,∃o,s2.heap.get? b=some o)(hkind:scope.kind=.function)(cap:CapOk X Nc n0 caps scope cl){h1:Heap}{m0:Str->Option Value}{tk:Nat}(hns:h1.Ns (s2.heap.objs.size+1) m0)(hold1:∀b o,s2.heap.get? b=some o->h1.get? b=some o)(hD:h1.get? s2.heap.objs.size=some Qj) :
  Inv (compCx X Nc scope cl { s2 with heap:=s2.heap.push Qj } (upd H2 s2.heap.objs.size (.lst [])) (s2.heap.objs.size+1) fp) [] (List.replicate n0 none++caps.map fun j=>(σ[j]?).join) (upd H2 s2.heap.objs.size (.lst [])) { s2 with heap:=h1,toks:=tk }:=by
 have fresh:H2 s2.heap.objs.size=none:=I2.hok.fresh (Nat.le_refl _)
 have freshC:H2 (s2.heap.objs.size+1)=none:=I2.hok.fresh (Nat.le_succ _)
 have sz:(s2.heap.push Qj).objs.size=s2.heap.objs.size+1:=Heap.size_push _ _
 have lt:∀{b:Addr} {o:Obj},s2.heap.get? b=some o->b<s2.heap.objs.size:=fun e=>Heap.lt_size e
 have ne0:∀{b:Addr} {o:Obj},s2.heap.get? b=some o->b≠s2.heap.objs.size:=fun e=>Nat.ne_of_lt (lt e)
 have clt:∀y c,cl.lookup y=some c->c<s2.heap.objs.size:=fun y c e=>by
  obtain⟨v,q⟩:=I2.cell y c (cap.sub y c e)
  exact q.lt
 have frl:∀b∈frs X.stack,b<s2.heap.objs.size:=fun b hb=>by
  obtain⟨_,o,ho,_⟩:=I2.stack.mem hb
  exact lt ho
 have kp:∀b o,(s2.heap.push Qj).get? b=some o->h1.get? b=some o:=fun b o e=>by
  by_cases hb:b=s2.heap.objs.size
  ·subst hb
   rw[Heap.get?_push_size _ rfl] at e
   cases e
   exact hD
  ·rw[Heap.get?_push_ne _ _ _ hb] at e
   exact hold1 b o e
 have hok3:HOk X.prog X.w (upd H2 s2.heap.objs.size (.lst [])) h1:=I2.hok.laid hold1 (Nat.le_refl _) ⟨Nat.zero_le _,[],0,.nil,hD⟩
 refine⟨⟨I2.ok.mod,?_,I2.ok.glob,I2.ok.blt,?_,?_,?_,?_,I2.ok.hd,I2.ok.frames,.inl rfl,?_,?_,?_,?_,?_,?_,?_⟩,rfl,I2.bare,?_,⟨m0,hns,?_⟩,?_,?_,?_,?_,hok3,?_⟩
 ·show(relabel scope X.env).kind=.function
  exact hkind
 ·show(s2.heap.push Qj).objs.size<=s2.heap.objs.size+1
  rw[sz];exact Nat.le_refl _
 ·intro x y c h1 h2
  exact I2.ok.inj x y c (cap.sub x c h1) (cap.sub y c h2)
 ·intro x h
  exact cap.has x h
 ·intro x c h
  cases h
 ·intro b hb
  refine⟨?_,fun x c e=>?_⟩
  ·obtain⟨o,e⟩:=hold b hb
   exact Nat.ne_of_lt (Nat.lt_succ_of_lt (lt e))
  ·exact(f2 b hb).2.2.2.2.1 x c (cap.sub x c e)
 ·intro b o e
  obtain⟨q1,q2⟩:=I2.bs b o e
  exact⟨Heap.get?_push_of_some _ q1,(Zn (ne0 q1)).trans q2⟩
 ·show X.base.objs.size<=(s2.heap.push Qj).objs.size
  rw[sz]
  exact Nat.le_succ_of_le (Nat.le_trans I2.ok.bsz I2.sz)
 ·intro b o e hb
  obtain⟨_,_,_,f4,_,_⟩:=f2 b hb
  rcases f4 with z|z
  ·exact I2.ok.noex b o e z
  ·exact absurd (Nat.lt_of_lt_of_le (Nat.lt_of_lt_of_le (Heap.lt_size e) I2.ok.bsz) z) (Nat.lt_irrefl _)
 ·intro b hb hz
  rcases List.mem_cons.mp (I2.stkSub b hz) with e|hz
  ·exact(f2 b hb).2.1 e
  ·exact(f2 b hb).2.2.1 hz
 ·exact I2.stack.of_keeps fun b o e _=>⟨o,Heap.get?_push_of_some _ e,rfl⟩
 ·intro b hb
  show upd H2 s2.heap.objs.size (.lst []) b=none
  rw[Zn (Nat.ne_of_lt (frl b hb))]
  exact I2.stkFree b hb
 ·exact Un.kept kp
 ·intro i x v e1 e2 e3
  have hi:n0<=i:=by
   refine Nat.le_of_not_lt fun hlt=>?_
   rw[List.getElem?_append_left (by simpa using hlt),List.getElem?_replicate] at e2
   split at e2<;>cases e2
  obtain⟨k,rfl⟩:=Nat.exists_eq_add_of_le hi
  rw[List.getElem?_append_right (by simp),List.length_replicate,Nat.add_sub_cancel_left,List.getElem?_map] at e2
  cases ej:caps[k]? with
  |none=>rw[ej] at e2;cases e2
  |some j =>
   rw[ej] at e2
   have e2:(σ[j]?).join=some v:=by simpa using e2
   have es:σ[j]?=some (some v):=by
    cases z:σ[j]? with
    |none=>rw[z] at e2;cases e2
    |some q=>rw[z] at e2;have:q=some v:=e2;rw[this]
   obtain⟨a1,a2,a3⟩:=cap.cap k j x e1 ej
   obtain⟨m,hn,hl⟩:=I2.loc
   obtain⟨u,ru,lk⟩:=hl j x v a1 es (.inr (.inl a2))
   refine⟨u,ru,?_⟩
   rcases lk with⟨z,_⟩|⟨_,c,ec,cell⟩
   ·have z:X.env.scope.names.lookup x=some .local:=z
    rw[a2] at z;cases z
   ·obtain⟨c',ec'⟩:=cap.has x (.inl a3)
    have:=cap.sub x c' ec'
    rw[ec] at this
    cases this
    obtain⟨o,ho,hd⟩:=cell
    exact .inr ⟨.inl a3,c,ec',o,hold1 _ _ ho,hd⟩
 ·intro x c e
  obtain⟨v,o,ho,hd⟩:=I2.cell x c (cap.sub x c e)
  exact⟨v,o,hold1 _ _ ho,hd⟩
 ·show upd H2 s2.heap.objs.size (.lst []) (s2.heap.objs.size+1)=none
  rw[Zn (Nat.ne_of_gt (Nat.lt_succ_self _))]
  exact freshC
 ·intro x c e
  show upd H2 s2.heap.objs.size (.lst []) c=none
  rw[Zn (Nat.ne_of_lt (clt x c e))]
  exact I2.freeC x c (cap.sub x c e)
 ·intro p hp
  exact absurd (show p∈([]:List (Addr×Obj)) from hp) (by simp)
 ·rw[List.length_append,List.length_replicate,List.length_map]
  exact cap.len.symm
theorem comp_back (I2:Inv X pins σ H2 s2)(f2:∀b∈fp,FpOk X pins H2 b){σ':L2.St}{H':Hp}{s':Shared}{h':Heap}(J:Inv (compCx X Nc scope cl { s2 with heap:=s2.heap.push Qj } (upd H2 s2.heap.objs.size (.lst [])) (s2.heap.objs.size+1) fp) [] σ' H' s')(sb:Heap.SameBut (s2.heap.objs.size+1) s'.heap h') :
  Inv X pins σ H' { s' with heap:=h' }:=by
 have I3:Inv X pins σ (upd H2 s2.heap.objs.size (.lst [])) { s2 with heap:=s2.heap.push Qj }:=I2.laid (t':=s2.toks) (fun b u e=>Heap.get?_push_of_some _ e) (Nat.le_refl _) ⟨Nat.zero_le _,[],0,.nil,Heap.get?_push_size _ rfl⟩
 have sz:(s2.heap.push Qj).objs.size=s2.heap.objs.size+1:=Heap.size_push _ _
 have same:∀{b:Addr} {o:Obj},(s2.heap.push Qj).get? b=some o->h'.get? b=s'.heap.get? b:=fun {b o} e=>sb.2 b (by
  have:=Heap.lt_size e
  rw[sz] at this
  exact Nat.ne_of_lt this)
 have u:Un (frs X.stack) fp (upd H2 s2.heap.objs.size (.lst [])) H' (s2.heap.push Qj) s'.heap:=J.base
 refine I3.call' (s':={ s' with heap:=h' }) (ch:=fp) J.os ⟨fun b o e n h1 h2=>?_,fun b o e n h1 h2=>?_,u.free,fun b o e h1=>?_,u.tups,u.frzs,u.tbls⟩ (fun b ob e=>?_) J.bare fun b hb=>?_
 ·show h'.get? b=_
  rw[same e];exact u.keep b o e n h1 h2
 ·show ∃sl,h'.get? b=_
  rw[same e];exact u.slot b o e n h1 h2
 ·show ∃o',h'.get? b=_
  rw[same e];exact u.there b o e h1
 ·have fr:H' (s2.heap.objs.size+1)=none:=J.free
  refine(J.hok b ob e).stay (fun c w hc q=>?_) (fun _ q=>q) fun _ _ q=>q
  refine(sb.2 c ?_).trans q
  rintro rfl
  rcases hc with rfl|hc
  ·rw[fr] at e;cases e
  ·rw[fr] at hc;cases hc
 ·obtain⟨f0,f1,_,f3,f4,f5⟩:=f2 b hb
  exact⟨f3,f1,f4,f5⟩
end
def capS:Option S->Option S
 |some (.im d)=>some (.im d)
 |_=>none
def sdC (n0:Nat)(caps:List Nat)(sd:DSt):DSt:=List.replicate n0 none++caps.map fun j=>capS (sd[j]?).join
def mapD (gt:D->DSt->M DSt)(fe:DSt->M D)(sd0:DSt):List D->M (List D)
 |[]=>.ok []
 |d::ds=>match gt d sd0 with
  |.ok sd1=>match fe sd1 with
   |.ok e=>match mapD gt fe sd0 ds with
    |.ok es=>.ok (e::es)
    |_=>.bad
   |_=>.bad
  |_=>.bad
def fComp (fi:DSt->M (List D))(n0:Nat)(caps:List Nat)(gt:D->DSt->M DSt)(fe:DSt->M D)(sd:DSt):M (List D):=(fi sd).bind fun ds=>if few ds then mapD gt fe (sdC n0 caps sd) ds else .bad
def PoF (K:PySem.W.Frag)(E:XK)(Hf H:Hp)(r:M (List D))(Q:VK):Prop:=match r with
 |.ok ds=>∀p xs Hf' H',Gr Hf H Hf' H'->H p=none->Hf' p=none->H' p=some (.lst xs)->Reps K Hf' ds xs->Q (.ref p) H'
 |.ex x=>∀c dx Hf' H',Gr Hf H Hf' H'->RepX K Hf' H' x c dx->E c dx H'
 |.bad=>False
def PFd (X:Cx)(E:XK)(e:Expr)(f:DSt->M (List D)):Prop :=
 ∃t:TE,PE X e t/\∀(H0:Hp) (B:Addr->Prop) (Hf:Hp) (sd:DSt) (σ:L2.St) (H:Hp) (Q:VK),SR X.K H0 B Hf sd σ H->PoF X.K E Hf H (f sd) Q->t σ H Q
theorem PoF.weak {K:PySem.W.Frag}{E:XK}{Hf H Hf1 H1:Hp}{r:M (List D)}{Q:VK}(g:Gr Hf H Hf1 H1)(h:PoF K E Hf H r Q):PoF K E Hf1 H1 r Q:=by
 cases r with
 |ok a=>exact fun p xs Hf' H' g' e1 e2 e3 e4=>h p xs Hf' H' (g.trans g') (g.all.free e1) e2 e3 e4
 |ex x=>exact fun c dx Hf' H' g' q=>h c dx Hf' H' (g.trans g') q
 |bad=>exact h
theorem PoF.bind {K:PySem.W.Frag}{E:XK}{Hf H:Hp}{α β:Type}{R:Hp->Hp->α->β->Prop}{r:M α}{k:α->M (List D)}{Q:VK}{Q1:β->Hp->Prop}(h:PoF K E Hf H (r.bind k) Q)(s:∀a b Hf1 H1,r=.ok a->Gr Hf H Hf1 H1->R Hf1 H1 a b->PoF K E Hf1 H1 (k a) Q->Q1 b H1):Po K E R Hf H r Q1:=by
 cases r with
 |ok a=>exact fun b Hf' H' g q=>s a b Hf' H' rfl g q (PoF.weak g h)
 |ex x=>exact h
 |bad=>exact h
def eNew (f:DSt->M (List D))(sd:DSt):M D:=(f sd).bind fun ds=>.ok (.lst ds)
theorem mapD_noex {gt:D->DSt->M DSt}{fe:DSt->M D}{sd0:DSt}{x:XV}:∀{ds:List D},mapD gt fe sd0 ds=.ex x->False
 |[],h=>by cases h
 |d::ds,h=>by
  unfold mapD at h
  split at h
  ·split at h
   ·split at h<;>cases h
   ·cases h
  ·cases h
theorem SR.ofIm {K:PySem.W.Frag}{Hf H:Hp}{sd:DSt}{σ:L2.St}(e:Same Hf H)(hl:sd.length=σ.length)(him:∀(i:Nat) (d:D),sd[i]?=some (some (.im d))->∃v,σ[i]?=some (some v)/\Rep K Hf d v)(hno:∀(i:Nat) (t:S),sd[i]?=some (some t)->∃d,t=.im d) :
  SR K H (fun a=>H a≠none/\Hf a=none) Hf sd σ H :=
 ⟨e,Same.refl _,fun _ h=>h.2,fun _ h=>h.1,hl,fun i t h _=>(by obtain⟨d,rfl⟩:=hno i t h;exact him i d h),fun i t h ho=>(by obtain⟨d,rfl⟩:=hno i t h;cases ho),fun i _ t _ _ _ h ho _ _ _ _=>(by obtain⟨d,rfl⟩:=hno i t h;cases ho)⟩
theorem sdC_lt {n0:Nat}{caps:List Nat}{sd:DSt}{i:Nat}{s:S}(h:(sdC n0 caps sd)[i]?=some (some s)):n0<=i:=by
 refine Nat.le_of_not_lt fun hlt=>?_
 unfold sdC at h
 rw[List.getElem?_append_left (by simpa using hlt),List.getElem?_replicate] at h
 split at h<;>cases h
theorem sdC_at {n0:Nat}{caps:List Nat}{sd:DSt}{i:Nat}{s:S}(h:(sdC n0 caps sd)[i]?=some (some s)):∃k j d,i=n0+k/\caps[k]?=some j/\sd[j]?=some (some (.im d))/\s=.im d:=by
 obtain⟨k,rfl⟩:=Nat.exists_eq_add_of_le (sdC_lt h)
 unfold sdC at h
 rw[List.getElem?_append_right (by simp),List.length_replicate,Nat.add_sub_cancel_left,List.getElem?_map] at h
 cases ej:caps[k]? with
 |none=>rw[ej] at h;cases h
 |some j =>
  rw[ej] at h
  have h:capS (sd[j]?).join=some s:=by simpa using h
  cases z:sd[j]? with
  |none=>rw[z] at h;cases h
  |some q =>
   rw[z] at h
   cases q with
   |none=>cases h
   |some q =>
    cases q with
    |im d=>cases h;exact⟨k,j,d,rfl,ej,z,rfl⟩
    |ow _=>cases h
    |od _=>cases h
    |dk _=>cases h
    |xc _=>cases h
    |fn _=>cases h
theorem sdC_no {n0:Nat}{caps:List Nat}{sd:DSt}(i:Nat)(t:S)(h:(sdC n0 caps sd)[i]?=some (some t)):∃d,t=.im d:=by
 obtain⟨_,_,d,_,_,_,e⟩:=sdC_at h
 exact⟨d,e⟩
def Keep (n0:Nat)(gt:D->DSt->M DSt):Prop:=∀d sd sd1,gt d sd=.ok sd1->sd1.length=sd.length/\(∀i:Nat,n0<=i->sd1[i]?=sd[i]?)/\True
theorem keep_name {n0 k:Nat}(h:k<n0):Keep n0 (gNm k):=fun d sd sd1 e=>by
 cases e
 exact⟨List.length_set,fun i hi=>List.getElem?_set_ne (by lia),trivial⟩
end DL
set_option maxHeartbeats 4000000
namespace DL
open PySem PySem.Spec PyProof.Rows L2
section
variable {X:Cx} {E:XK} {pos:Pos} {a b:Expr}
def fLst (fs:DSt->M (List D))(sd:DSt):M (List D):=(fs sd).bind fun ds=>if few ds then .ok ds else .bad
theorem pfd_lst {es:List Expr}{fs:DSt->M (List D)}(h:PAd X E es fs):PFd X E (.List es pos) (fLst fs):=by
 obtain⟨t,p,q⟩:=h
 refine⟨_,pe_lst p,fun H0 B Hf sd σ H Q sr h=>?_⟩
 refine q H0 B Hf sd σ H _ sr (PoF.bind h fun ds vs Hf1 H1 _ g1 rs h1=>?_)
 split at h1
 ·rename_i hf
  refine⟨few_line hf rs,fun p hp=>h1 p vs Hf1 _ ⟨Same.refl _,g1.sub.trans (Z4 hp _),Z4 hp _,fun _ _ e=>e⟩ hp (g1.sub.free hp) Zo rs⟩
 ·exact h1.elim
def fCall (F:List D->M S)(fs:DSt->M (List D))(sd:DSt):M (List D):=(fs sd).bind fun ds=>match F ds with
 |.ok (.ow es)=>.ok es
 |_=>.bad
theorem pfd_call {k:Nat}{f:Addr}{fd:FuncData}{ps:List Str}{F:List D->M S}{x:Str}{p:Pos}{es:List Expr}{fs:DSt->M (List D)}(G:FnOk X.prog X.w X.K X.mg X.base CX0 k f fd ps (spN X.K F))(hr:Room k X.A)(hm:X.mg x=some (.ref f))(hk:PySem.W.keepIn X.K (.ref f)=true)(hb:Binds X.K fd ps [])(ha:PAd X E (a::es) fs)(hg:Gl X x:=by rfl) (hdb:(x==("__debug__" : Str))=false:=by decide) (he:starEach (a::es) X.env=(false,eval a X.env)::starEach es X.env:=by rfl) (hpl:(backTo pos (starEach es X.env)).any (·.1)=false:=by rfl) :
  PFd X E (.Call (.Name x p) (a::es) [] pos) (fCall F fs):=by
 obtain⟨t,pt,qt⟩:=ha
 refine⟨_,pe_call (dvs:=[]) (E:=E0) G hr hg hm hk hb .nil pass0 pt hdb he hpl,fun H0 B Hf sd σ H Q sr h=>?_⟩
 refine qt H0 B Hf sd σ H _ sr (PoF.bind h fun ds vs Hf1 H1 _ g1 rs h1=>?_)
 split at h1
 ·rename_i es e
  refine⟨Hf1,ds,_,g1.sub,by rw[List.append_nil];exact rs,e,fun v Hf' H' g2 rv=>?_⟩
  obtain⟨p,rfl,e1,e2,xs,e3,e4⟩:=rv
  exact h1 p xs Hf' H' g2 e1 e2 e3 e4
 ·exact h1.elim
theorem PoS.bindF {K:PySem.W.Frag}{E:XK}{H0 Hf H:Hp}{B:Addr->Prop}{sd:DSt}{σ:L2.St}{r:M (List D)}{k:List D->M O}{D':Ends}{Q1:VK}(sr:SR K H0 B Hf sd σ H)(h:PoS K E H0 B Hf (r.bind k) D')(s:∀ds p xs Hf1 H1,r=.ok ds->Gr Hf H Hf1 H1->SR K H0 B Hf1 sd σ H1->H p=none->Hf1 p=none->H1 p=some (.lst xs)->Reps K Hf1 ds xs->PoS K E H0 B Hf1 (k ds) D'->Q1 (.ref p) H1):PoF K E Hf H r Q1:=by
 cases r with
 |ok ds=>exact fun p xs Hf' H' g e1 e2 e3 e4=>s ds p xs Hf' H' rfl g (sr.gr g) e1 e2 e3 e4 (PoS.weak g.fz h)
 |ex x=>exact fun c dx Hf' H' g q=>h c dx Hf' H' g.fz (sr.gr g).fin q
 |bad=>exact h
theorem SR.set_new {K:PySem.W.Frag}{H0 Hf H H1:Hp}{B:Addr->Prop}{sd:DSt}{σ:L2.St}(r0:SR K H0 B Hf sd σ H){Hf1:Hp}(r:SR K H0 B Hf1 sd σ H1)(g:Same H H1)(i:Nat){p:Addr}{t:S}(hp:H p=none)(hf:Hf1 p=none)(ho:t.own=true)(h:S.at K Hf1 H1 p t) :
  SR K H0 B Hf1 (sd.set i (some t)) (σ.set i (some (.ref p))) H1 where
 sub:=r.sub
 all:=r.all
 ban:=r.ban
 bt:=r.bt
 len:=by rw[List.length_set,List.length_set];exact r.len
 imS:=fun j d' e z=>by
  by_cases hj:i=j
  ·subst hj
   have hi:i<sd.length:=by
    have:=(List.getElem?_eq_some_iff.mp e).1;simpa using this
   rw[List.getElem?_set_self hi] at e
   cases e
   rw[ho] at z;cases z
  ·rw[List.getElem?_set_ne hj] at e ⊢
   exact r.imS j d' e z
 ow:=fun j u e hu=>by
  by_cases hj:i=j
  ·subst hj
   have hi:i<sd.length:=by
    have:=(List.getElem?_eq_some_iff.mp e).1;simpa using this
   rw[List.getElem?_set_self hi] at e
   cases e
   exact⟨p,by rw[List.getElem?_set_self (by rw[<-r.len];exact hi)],r0.all.free hp,hf,h⟩
  ·rw[List.getElem?_set_ne hj] at e ⊢
   exact r.ow j u e hu
 sep:=fun j k u w q hjk e1 o1 e2 o2 e3 e4=>by
  have new:∀{l:Nat},i=l->(σ.set i (some (V.ref p)))[l]?=some (some (.ref q))->q=p:=fun {l} z e=>by
   subst z
   have hi:i<σ.length:=by
    have:=(List.getElem?_eq_some_iff.mp e).1;simpa using this
   rw[List.getElem?_set_self hi] at e
   cases e;rfl
  have old:∀{l:Nat} {u:S},i≠l->(sd.set i (some t))[l]?=some (some u)->u.own=true->(σ.set i (some (V.ref p)))[l]?=some (some (.ref q))->q≠p:=fun {l u} n e ou z=>by
   rw[List.getElem?_set_ne n] at e z
   obtain⟨q',e1,_,_,e4⟩:=r0.ow l u e ou
   rw[z] at e1
   cases e1
   obtain⟨o,eo⟩:=at_some e4
   exact Zy eo hp
  by_cases n1:i=j
  ·have n2:i≠k:=fun z=>hjk (n1.symm.trans z)
   exact old n2 e2 o2 e4 (new n1 e3)
  ·by_cases n2:i=k
   ·exact old n1 e1 o1 e3 (new n2 e4)
   ·rw[List.getElem?_set_ne n1] at e1 e3
    rw[List.getElem?_set_ne n2] at e2 e4
    exact r.sep j k u w q hjk e1 o1 e2 o2 e3 e4
def sOwn (i:Nat)(f:DSt->M (List D))(sd:DSt):M O:=(f sd).bind fun ds=>.ok (.nx (sd.set i (some (.ow ds))))
theorem psd_own (i:Nat){x:Str}{e:Expr}{f:DSt->M (List D)}{pos':Pos}(hN:X.N.Nodup)(h:PFd X E e f)(hi:X.N[i]?=some x:=by rfl)(hx:Loc X.env.scope x:=by first|exact Or.inl rfl|exact Or.inr rfl)(hs:swapsWith e (some (.Name x pos')) pos.line X.env=pure false:=by rfl)(hf:X.fn x=true\/X.env.scope.names.lookup x=some .local:=by first|exact .inl rfl|exact .inr rfl|assumption) :
  PSd X E (.Assign [.Name x pos'] e pos) (sOwn i f):=by
 obtain⟨t,p,q⟩:=h
 refine⟨_,ps_set hN hi hx p hs hf,fun H0 B Hf sd σ H D sr h=>?_⟩
 refine q H0 B Hf sd σ H _ sr (PoS.bindF sr h fun ds p xs Hf1 H1 _ g1 sr1 e1 e2 e3 e4 h1=>?_)
 exact h1 _ Hf1 H1 (Same.refl _) (sr.set_new sr1 g1.all i e1 e2 rfl ⟨xs,e3,e4⟩)
def Yx (i:Nat)(f:DSt->M D)(sd:DSt):M O:=match sd[i]? with
 |some (some (.ow ds))=>(f sd).bind fun d=>if few ds then .ok (.nx (sd.set i (some (.ow (ds++[d]))))) else .bad
 |_=>.bad
theorem Yq (i:Nat){x:Str}{e:Expr}{f:DSt->M D}{p1 p2 p3:Pos}(h:PEd X E e f)(hi:X.N[i]?=some x:=by rfl)(hv:Vis X.env.scope x:=by first|exact Or.inl rfl|exact Or.inr (Or.inl rfl)|exact Or.inr (Or.inr rfl))
  (hd:(x==("__debug__" : Str))=false:=by decide) (hcd:(x==("__classdict__" : Str))=false:=by decide)
  (hse:starEach [e] X.env=(false,eval e X.env)::starEach [] X.env:=by rfl)
  (hbase:attributeBase (.Name x p1) "append" X.env (eval (.Name x p1) X.env)=eval (.Name x p1) X.env:=by rfl)
  (hfew:((backTo p3 (starEach [e] X.env)).all (fun x=>!x.1)&&(backToKw p3 (keywordEach [] X.env)).all (fun x=>x.1.isSome)
   && decide ([e].length+([]:List Keyword).length+(if([]:List Keyword).isEmpty then 0 else 1)<30))=true:=by rfl)
  (hline:(p2.endLine==p3.line)=true:=by rfl) (hplain:(backTo p3 (starEach ([]:List Expr) X.env)).any (·.1)=false:=by rfl)
  (hsw:swapsWith (.Call (.Attribute (.Name x p1) "append" p2) [e] [] p3) none pos.line X.env=pure false:=by rfl) :
  PSd X E (.Expr (.Call (.Attribute (.Name x p1) "append" p2) [e] [] p3) pos) (Yx i f):=by
 obtain⟨t,pt,q⟩:=h
 refine⟨_,ps_expr (pe_bm PySem.F.plainAttrs_list PySem.F.slot_list_append PySem.F.type_list_append mt_append (Ym hi hv hd hcd) (pa_cons pt pa_nil hse) hbase hfew hline hse hplain) hsw,fun H0 B Hf sd σ H D sr h=>?_⟩
 unfold Yx at h
 split at h
 ·rename_i ds ei
  obtain⟨p,z1,z2,z3,xs,z4,z5⟩:=sr.ow i _ ei rfl
  refine⟨_,z1,.inl ⟨rfl,xs,SqL.of z4⟩,?_⟩
  refine q H0 B Hf sd σ H _ sr (PoS.bind sr h fun d v Hf1 H1 _ g1 sr1 rv h1=>?_)
  split at h1
  ·rename_i hf
   have z5':=z5.mono g1.fz
   have hl:xs.length<sizeLine:=by
    have h1:=of_decide_eq_true hf
    have h2:=sizeLine_eq
    rw[<-z5.length,h2];lia
   refine⟨p,xs,v,rfl,rfl,g1.all _ _ z4,hl,?_⟩
   exact h1 _ Hf1 _ (Same.refl _) (sr1.change ei rfl z1 rfl ⟨_,Zo,z5'.append (Reps.cons rv Reps.nil)⟩)
  ·exact h1.elim
 ·exact h.elim
def sRetO (i:Nat)(sd:DSt):M O:=match sd[i]? with
 |some (some (.ow ds))=>.ok (.rt (.ow ds))
 |_=>.bad
theorem psd_retO (i:Nat){x:Str}{p1:Pos}(hi:X.N[i]?=some x:=by rfl)(hv:Vis X.env.scope x:=by first|exact Or.inl rfl|exact Or.inr (Or.inl rfl)|exact Or.inr (Or.inr rfl))
  (hd:(x==("__debug__" : Str))=false:=by decide) (hcd:(x==("__classdict__" : Str))=false:=by decide):PSd X E (.Return (some (.Name x p1)) pos) (sRetO i):=by
 refine⟨_,ps_ret (Ym hi hv hd hcd),fun H0 B Hf sd σ H D sr h=>?_⟩
 unfold sRetO at h
 split at h
 ·rename_i ds ei
  obtain⟨p,z1,z2,z3,z4⟩:=sr.ow i _ ei rfl
  exact⟨_,z1,h _ Hf H (Same.refl _) sr.fin ⟨p,rfl,z2,z3,z4⟩⟩
 ·exact h.elim
def frz (i:Nat)(sd:DSt):DSt:=match sd[i]? with
 |some (some (.ow ds))=>sd.set i (some (.im (.lst ds)))
 |_=>sd
def sFrz (i:Nat)(f:DSt->M O)(sd:DSt):M O:=f (frz i sd)
theorem psd_frz (i:Nat){st:List Stmt}{f:DSt->M O}(h:PSsd X E st f):PSsd X E st (sFrz i f):=by
 obtain⟨t,p,q⟩:=h
 refine⟨t,p,fun H0 B Hf sd σ H D sr h=>?_⟩
 unfold sFrz frz at h
 split at h
 ·rename_i ds ei
  obtain⟨Hf',e,sr'⟩:=sr.freeze ei
  exact q H0 B Hf' _ σ H D sr' (PoS.weak e h)
 ·exact q H0 B Hf sd σ H D sr h
theorem any_reps {Xc:Cx}{pins:List (Addr×Obj)}{σ:L2.St}{H:Hp}{s:Shared}(I:Inv Xc pins σ H s)(dx:D)(e:Value->Bool)(he:∀d v u,Rep Xc.K H d v->RelV v u->e u=D.eq d dx) :
  ∀{ds:List D} {xs:List V} {us:List Value},Reps Xc.K H ds xs->Vals xs us->us.any e=ds.any fun d=>D.eq d dx
 |[],xs,us,r,v=>by
  rw[reps_nil.mp r] at v
  cases v
  rfl
 |d::ds,xs,us,r,v=>by
  obtain⟨x,xr,rfl,r1,r2⟩:=reps_cons.mp r
  cases v with
  |cons v1 v2=>rw[List.any_cons,List.any_cons,he d x _ r1 v1,any_reps I dx e he r2 v2]
theorem mem_reps {Xc:Cx}{H:Hp}{ds:List D}:∀{xs:List V} {us:List Value} {u:Value},Reps Xc.K H ds xs->Vals xs us->u∈us->∃d v,d∈ds/\Rep Xc.K H d v/\RelV v u:=by
 induction ds with
 |nil =>
  intro xs us u r v hu
  rw[reps_nil.mp r] at v
  cases v
  cases hu
 |cons d ds ih =>
  intro xs us u r v hu
  obtain⟨x,xr,rfl,r1,r2⟩:=reps_cons.mp r
  cases v with
  |cons v1 v2 =>
   rcases List.mem_cons.mp hu with rfl|hu
   ·exact⟨d,x,List.mem_cons_self,r1,v1⟩
   ·obtain⟨d',v',h1,h2,h3⟩:=ih r2 v2 hu
    exact⟨d',v',List.mem_cons_of_mem _ h1,h2,h3⟩
def inD (dx:D)(ds:List D):Bool:=ds.any fun d=>D.eq d dx
def rInD (K:PySem.W.Frag)(neg:Bool):R2:=fun x y H Q=>∃dx ds,Rep K H dx x/\(Rep K H (.lst ds) y\/Rep K H (.tup ds) y)/\D.deps ds<=60/\Q (.bl (if neg then !inD dx ds else inD dx ds)) H
theorem deps_mem:∀{ds:List D} {d:D},d∈ds->d.dep<=D.deps ds
 |e::ds,d,h=>by
  rw[D.deps]
  rcases List.mem_cons.mp h with rfl|h
  ·lia
  ·have:=deps_mem h;lia
open Classical in
theorem op_inD (hu:X.A.units+64<cLine):OpR X (compareOp .In) (rInD X.K false):=by
 intro pins s σ H x y v u Q I rx ry h
 obtain⟨dx,ds,hx,hy,hd,q⟩:=h
 let e:Value->Bool:=fun u=>decide (∃d v,Rep X.K H d v/\RelV v u/\D.eq d dx=true)
 have he:∀d v u,Rep X.K H d v->RelV v u->e u=D.eq d dx:=fun d v u r1 r2=>by
  cases z:D.eq d dx with
  |true=>exact decide_eq_true ⟨d,v,r1,r2,z⟩
  |false =>
   refine decide_eq_false ?_
   rintro⟨d',v',a1,a2,a3⟩
   have e1:v'=v:=RelV.inj a2 r2
   subst e1
   rw[rep_inj I d d' _ r1 a1,a3] at z
   cases z
 have each:∀{xs:List V} {us:List Value},Reps X.K H ds xs->Vals xs us->∀w∈us,SeqAt.EqAt X.A.in1 s w v (e w):=fun {xs us} r1 r2 w hw=>by
  obtain⟨d,z,m1,m2,m3⟩:=mem_reps r1 r2 hw
  rw[he d z w m2 m3]
  refine(cmp_at I d dx X.A.in1 z x w v ?_ m2 hx m3 rx).eq
  have:=deps_mem m1
  show X.A.units+1+_<_
  lia
 rcases hy with hy|hy
 ·obtain⟨p,xs,rfl,hp,hr⟩:=rep_lst.mp hy
  cases ry
  obtain⟨its,r,pl,hz⟩:=I.list hp
  refine SeqAt.in_listAt e pl.isList (fun w hw=>each hr r w (by simpa using hw)) ⟨.bl _,H,I,rfl,?_⟩
  rw[show its.toArray.any e=its.any e by simp,any_reps I dx e he hr r]
  exact q
 ·obtain⟨p,xs,rfl,hp,hr⟩:=Z8 hy
  cases ry
  obtain⟨its,r,pl,hz⟩:=I.tuple hp
  refine SeqAt.in_tupleAt e pl (fun w hw=>each hr r w (by simpa using hw)) ⟨.bl _,H,I,rfl,?_⟩
  rw[show its.toArray.any e=its.any e by simp,any_reps I dx e he hr r]
  exact q
open Classical in
def gIn:D->D->M D
 |x,.lst ds=>if D.deps ds<=60 then .ok (.bl (inD x ds)) else .bad
 |x,.tup ds=>if D.deps ds<=60 then .ok (.bl (inD x ds)) else .bad
 |_,_=>.bad
theorem od_in (hu:X.A.units+64<cLine):OpD X E (compareOp .In) gIn:=by
 refine⟨_,op_inD hu,fun Hf H x y dx dy Q e rx ry q=>?_⟩
 unfold gIn at q
 split at q
 ·split at q
  ·rename_i hd
   exact⟨_,_,rx.mono e,.inl (ry.mono e),hd,Po.ret e q (rep_bl.mpr rfl)⟩
  ·exact q.elim
 ·split at q
  ·rename_i hd
   exact⟨_,_,rx.mono e,.inr (ry.mono e),hd,Po.ret e q (rep_bl.mpr rfl)⟩
  ·exact q.elim
 ·exact q.elim
def D.isN:D->Bool
 |.non=>true
 |_=>false
def gIsN:D->D->M D
 |x,.non=>.ok (.bl x.isN)
 |_,_=>.bad
theorem isN_rep {K:PySem.W.Frag}{H:Hp}{d:D}{v:V}(r:Rep K H d v):decide (v=.non)=d.isN:=by
 cases d with
 |non=>rw[rep_non.mp r];rfl
 |bl b=>rw[rep_bl.mp r];rfl
 |int b=>rw[rep_int.mp r];rfl
 |str b=>rw[rep_str.mp r];rfl
 |tup b=>obtain⟨_,_,e,_⟩:=rep_tup.mp r;rw[e];rfl
 |lst b=>obtain⟨_,_,e,_⟩:=rep_lst.mp r;rw[e];rfl
theorem od_isN:OpD X E (compareOp .Is) gIsN:=by
 refine⟨_,op_isN,fun Hf H x y dx dy Q e rx ry q=>?_⟩
 unfold gIsN at q
 split at q
 ·exact⟨rep_non.mp ry,Po.ret e q (by rw[isN_rep rx];exact rep_bl.mpr rfl)⟩
 ·exact q.elim
end
end DL
set_option maxHeartbeats 4000000
namespace DL
open PySem PySem.Spec PyProof.Rows L2
section
variable {X:Cx} {pins:List (Addr×Obj)} {σ:L2.St} {H:Hp} {s:Shared} {h':Heap} {t':Nat} {fp:List Addr}
theorem _root_.L2.Inv.turnedT {T:Addr}{o:HO}(I:Inv X pins σ H s)(hf:∀b∈fp,FpOk X pins H b)(k:∀b u,b ∉ fp->s.heap.get? b=some u->h'.get? b=some u)(hT:s.heap.objs.size<=T)(new:ObjOk X.prog X.w (upd H T o) h' T o) :
  Inv X pins σ (upd H T o) { s with heap:=h',toks:=t' }:=by
 have hn:=I.hok.fresh hT
 have ne:∀b u,s.heap.get? b=some u->b≠T:=fun b u e=>Nat.ne_of_lt (Nat.lt_of_lt_of_le (Heap.lt_size e) hT)
 refine I.step (g':=s.gens) (d':=s.drawn) (ch:=fp) (fun b hb=>?_) (fun b u _ _ hc e _=>k b u hc e) (fun b u _ _ hc e _=>⟨u.slots,k b u hc e⟩) (fun b u _ e n=>by rw[Zn (ne b u e)];exact n) (fun b u hc e=>⟨u,k b u hc e⟩)
  (fun b xs e=>by rw[Zn (Zy e hn)];exact e) (fun b u xs e=>by rw[Zn (Zy e hn)];exact e) (fun b ps e=>⟨#[],by rw[Zn (Zy e hn),e];simp⟩) (fun m hm=>?_) (fun b u e=>?_) I.bare
 ·obtain⟨f0,f1,f2,f3,f4,f5⟩:=hf b hb
  exact⟨f3,f1,f4,f5⟩
 ·obtain⟨ob,es,ep,ho,r⟩:=hm
  exact⟨ob,es,ep,k _ ob (fun z=>(hf _ z).2.1 rfl) ho,r⟩
 ·by_cases hb:b=T
  ·subst hb;rw[Zo] at e;cases e;exact new
  ·rw[Zn hb] at e
   have nf:∀c v,H c=some v->c ∉ fp:=fun c v e z=>by rw[(hf c z).1] at e;cases e
   refine(I.hok b u e).stay (fun c v hc q=>k c v ?_ q) (fun c q=>by rw[Zn (Zy q hn)];exact q) fun c xs q=>by rw[Zn (Zy q hn)];exact q
   rcases hc with rfl|hc
   ·exact nf _ _ e
   ·exact nf _ _ hc
theorem _root_.L2.Inv.turnedF (I:Inv X pins σ H s)(hf:∀b∈fp,FpOk X pins H b)(k:∀b u,b ∉ fp->s.heap.get? b=some u->h'.get? b=some u):Inv X pins σ H { s with heap:=h',toks:=t' }:=by
 refine I.step (g':=s.gens) (d':=s.drawn) (ch:=fp) (fun b hb=>?_) (fun b u _ _ hc e _=>k b u hc e) (fun b u _ _ hc e _=>⟨u.slots,k b u hc e⟩) (fun b u _ e n=>n) (fun b u hc e=>⟨u,k b u hc e⟩)
  (fun b xs e=>e) (fun b u xs e=>e) (fun b ps e=>⟨#[],by rw[e];simp⟩) (fun m hm=>?_) (fun b u e=>?_) I.bare
 ·obtain⟨f0,f1,f2,f3,f4,f5⟩:=hf b hb
  exact⟨f3,f1,f4,f5⟩
 ·obtain⟨ob,es,ep,ho,r⟩:=hm
  exact⟨ob,es,ep,k _ ob (fun z=>(hf _ z).2.1 rfl) ho,r⟩
 ·have nf:∀c v,H c=some v->c ∉ fp:=fun c v e z=>by rw[(hf c z).1] at e;cases e
  refine(I.hok b u e).stay (fun c v hc q=>k c v ?_ q) (fun c q=>q) fun c xs q=>q
  rcases hc with rfl|hc
  ·exact nf _ _ e
  ·exact nf _ _ hc
end
structure ZA (z TI TO i1 i2:Addr):Prop where
 TIz:TI≠z
 TOz:TO≠z
 i1z:i1≠z
 i2z:i2≠z
 TITO:TI≠TO
 TIi1:TI≠i1
 TIi2:TI≠i2
 TOi1:TO≠i1
 TOi2:TO≠i2
 i12:i1≠i2
section
variable {X:Cx} {E:XK} {pos p p2:Pos} {es:List Expr} {k:Nat}
def enumD (n:Nat):List D->List D
 |[]=>[]
 |d::r=>.tup [.int n,d]::enumD (n+1) r
theorem enumD_get:∀(ds:List D) (n i:Nat),(enumD n ds)[i]?=(ds[i]?).map fun d=>.tup [.int ((n+i:Nat):Int),d]
 |[],_,_=>by simp[enumD]
 |d::r,n,0=>by simp[enumD]
 |d::r,n,i+1=>by
  rw[enumD,List.getElem?_cons_succ,enumD_get r (n+1) i,List.getElem?_cons_succ]
  congr 1;funext d;congr 3;lia
end
def keyD:D->Option Key
 |.int i=>some (.inl i)
 |.str x=>some (.inr x)
 |_=>none
def keysD:List D->Option (List Key)
 |[]=>some []
 |d::r=>match keyD d,keysD r with
  |some k,some ks=>some (k::ks)
  |_,_=>none
theorem keyD_rep {K:PySem.W.Frag}{H:Hp}{d:D}{k:Key}{v:V}(e:keyD d=some k)(r:Rep K H d v):v=kV k:=by
 cases d with
 |int i=>cases e;exact rep_int.mp r
 |str x=>cases e;exact rep_str.mp r
 |non=>cases e
 |bl _=>cases e
 |tup _=>cases e
 |lst _=>cases e
theorem keysD_reps {K:PySem.W.Frag}{H:Hp}:∀{ds:List D} {ks:List Key} {vs:List V},keysD ds=some ks->Reps K H ds vs->vs=ks.map kV
 |[],ks,vs,e,r=>by cases e;rw[reps_nil.mp r];rfl
 |d::ds,ks,vs,e,r=>by
  obtain⟨x,xr,rfl,r1,r2⟩:=reps_cons.mp r
  unfold keysD at e
  split at e
  ·rename_i k ks' e1 e2
   cases e
   rw[keyD_rep e1 r1,keysD_reps e2 r2]
   rfl
  ·cases e
def putD {κ:Type}[DecidableEq κ](kvs:List (κ×D))(k:κ)(d:D):List (κ×D) :=
 if(kvs.any fun kv=>decide (kv.1=k))=true then kvs.map (fun kv=>if kv.1=k then(kv.1,d) else kv) else kvs++[(k,d)]
def hasD {κ:Type}[DecidableEq κ](kvs:List (κ×D))(k:κ):Bool:=kvs.any fun kv=>decide (kv.1=k)
def Qq {κ:Type}[DecidableEq κ](kvs:List (κ×D))(k:κ):Option D:=(kvs.find? fun kv=>decide (kv.1=k)).map (·.2)
section
variable {κ:Type} [DecidableEq κ]
variable {K:PySem.W.Frag} {H:Hp}
theorem RepKV.any {kvs:List (κ×D)}{ys:List (κ×V)}(r:RepKV K H kvs ys)(k:κ):(kvs.any fun kv=>decide (kv.1=k))=(ys.any fun kv=>decide (kv.1=k)):=by
 unfold RepKV at r
 induction r with
 |nil=>rfl
 |cons h t ih=>rw[List.any_cons,List.any_cons,ih,h.1]
theorem RepKV.get {kvs:List (κ×D)}{ys:List (κ×V)}(r:RepKV K H kvs ys)(k:κ){d:D}(e:Qq kvs k=some d):∃v,valV ys k=some v/\Rep K H d v:=by
 unfold RepKV at r
 induction r with
 |nil=>cases e
 | @cons p q ps qs h t ih =>
  by_cases hk:p.1=k
  ·have e1:Qq (p::ps) k=some p.2:=by simp[Qq,List.find?_cons,hk]
   rw[e1] at e
   cases e
   exact⟨q.2,valV_pos (h.1▸hk),h.2⟩
  ·have e1:Qq (p::ps) k=Qq ps k:=by simp[Qq,List.find?_cons,hk]
   rw[e1] at e
   obtain⟨v,h1,h2⟩:=ih e
   exact⟨v,by rw[valV_neg (fun z=>hk (h.1.trans z))];exact h1,h2⟩
theorem RepKV.none {kvs:List (κ×D)}{ys:List (κ×V)}(r:RepKV K H kvs ys)(k:κ)(e:Qq kvs k=.none):valV ys k=.none:=by
 unfold RepKV at r
 induction r with
 |nil=>rfl
 | @cons p q ps qs h t ih =>
  by_cases hk:p.1=k
  ·have e1:Qq (p::ps) k=some p.2:=by simp[Qq,List.find?_cons,hk]
   rw[e1] at e
   cases e
  ·have e1:Qq (p::ps) k=Qq ps k:=by simp[Qq,List.find?_cons,hk]
   rw[e1] at e
   rw[valV_neg (fun z=>hk (h.1.trans z))];exact ih e
theorem RepKV.repl {kvs:List (κ×D)}{ys:List (κ×V)}(r:RepKV K H kvs ys)(k:κ){d:D}{v:V}(h:Rep K H d v):RepKV K H (kvs.map fun kv=>if kv.1=k then(kv.1,d) else kv) (ys.map fun kv=>if kv.1=k then(kv.1,v) else kv):=by
 unfold RepKV at r ⊢
 induction r with
 |nil=>exact .nil
 | @cons p q ps qs hp t ih =>
  refine .cons ?_ ih
  show(if p.1=k then(p.1,d) else p).1=(if q.1=k then(q.1,v) else q).1/\Rep K H (if p.1=k then(p.1,d) else p).2 (if q.1=k then(q.1,v) else q).2
  by_cases hk:p.1=k
  ·rw[if_pos hk,if_pos (hp.1▸hk)];exact⟨hp.1,h⟩
  ·rw[if_neg hk,if_neg (fun z=>hk (hp.1.trans z))];exact hp
theorem RepKV.put {kvs:List (κ×D)}{ys:List (κ×V)}(r:RepKV K H kvs ys)(k:κ){d:D}{v:V}(h:Rep K H d v):RepKV K H (putD kvs k d) (putK ys k v):=by
 unfold putD putK
 rw[r.any k]
 split
 ·exact r.repl k h
 ·exact Paired.snoc r ⟨rfl,h⟩
theorem RepKV.length {kvs:List (κ×D)}{ys:List (κ×V)}(r:RepKV K H kvs ys):kvs.length=ys.length:=Paired.length r
end
section
variable {X:Cx} {E:XK} {pos p1 p2 pos':Pos} {key value:Expr} {x:Str}
def sDNewT (i:Nat)(sd:DSt):M O:=.ok (.nx (sd.set i (some (.od []))))
def sDNewK (i:Nat)(sd:DSt):M O:=.ok (.nx (sd.set i (some (.dk []))))
theorem psd_dnewT (i:Nat)(hN:X.N.Nodup)(hi:X.N[i]?=some x:=by rfl)(hx:Loc X.env.scope x:=by first|exact Or.inl rfl|exact Or.inr rfl)(hs:swapsWith (.Dict [] [] p2) (some (.Name x pos')) pos.line X.env=pure false:=by rfl)(hf:X.fn x=true\/X.env.scope.names.lookup x=some .local:=by first|exact .inl rfl|exact .inr rfl|assumption) :
  PSd X E (.Assign [.Name x pos'] (.Dict [] [] p2) pos) (sDNewT i):=by
 refine⟨_,ps_set hN hi hx pe_dnewT hs hf,fun H0 B Hf sd σ H D sr h=>?_⟩
 exact fun p hp=>h _ Hf _ (Same.refl _) (sr.set_own i hp rfl ⟨[],Zo,.nil⟩)
theorem psd_dnewK (i:Nat)(hN:X.N.Nodup)(hi:X.N[i]?=some x:=by rfl)(hx:Loc X.env.scope x:=by first|exact Or.inl rfl|exact Or.inr rfl)(hs:swapsWith (.Dict [] [] p2) (some (.Name x pos')) pos.line X.env=pure false:=by rfl)(hf:X.fn x=true\/X.env.scope.names.lookup x=some .local:=by first|exact .inl rfl|exact .inr rfl|assumption) :
  PSd X E (.Assign [.Name x pos'] (.Dict [] [] p2) pos) (sDNewK i):=by
 refine⟨_,ps_set hN hi hx pe_dnewK hs hf,fun H0 B Hf sd σ H D sr h=>?_⟩
 exact fun p hp=>h _ Hf _ (Same.refl _) (sr.set_own i hp rfl ⟨[],Zo,.nil⟩)
def dput:Option (Option S)->D->D->Option S
 |some (some (.od kvs)),.tup ds,v=>match keysD ds with
  |some ks=>if kvs.length<=1000000 then some (.od (putD kvs ks v)) else none
  |none=>none
 |some (some (.dk kvs)),k,v=>match keyD k with
  |some k=>if kvs.length<=1000000 then some (.dk (putD kvs k v)) else none
  |none=>none
 |_,_,_=>none
def dhas:Option (Option S)->D->Option Bool
 |some (some (.od kvs)),.tup ds=>(keysD ds).map (hasD kvs)
 |some (some (.dk kvs)),k=>(keyD k).map (hasD kvs)
 |_,_=>none
def dget:Option (Option S)->D->Option (Option D)
 |some (some (.od kvs)),.tup ds=>(keysD ds).map (Qq kvs)
 |some (some (.dk kvs)),k=>(keyD k).map (Qq kvs)
 |_,_=>none
def isDct:Option (Option S)->Bool
 |some (some (.od _))=>true
 |some (some (.dk _))=>true
 |_=>false
theorem dct_own {o:Option (Option S)}(h:isDct o=true):∃t,o=some (some t)/\t.own=true:=by
 unfold isDct at h
 split at h
 ·exact⟨_,rfl,rfl⟩
 ·exact⟨_,rfl,rfl⟩
 ·cases h
theorem key_at {K:PySem.W.Frag}{Hf H:Hp}{ds:List D}{ks:List Key}{y:V}(e:keysD ds=some ks)(sub:Same Hf H)(r:Rep K Hf (.tup ds) y):∃b,y=.ref b/\H b=some (.tup (ks.map kV)):=by
 obtain⟨b,xs,rfl,hb,hr⟩:=rep_tup.mp r
 rw[keysD_reps e hr] at hb
 exact⟨b,rfl,sub _ _ hb⟩
theorem dhas_get {K:PySem.W.Frag}{Hf H:Hp}{t:S}{k:D}{y:V}{b:Bool}{p:Addr}(e:dhas (some (some t)) k=some b)(sub:Same Hf H)(a:S.at K Hf H p t)(r:Rep K Hf k y):∃o,DGet H p y o/\o.isSome=b:=by
 unfold dhas at e
 split at e
 ·rename_i kvs ds he
  cases he
  obtain⟨ys,h1,h2⟩:=a
  obtain⟨ks,e1,e2⟩:=Option.map_eq_some_iff.mp e
  obtain⟨b',rfl,hb⟩:=key_at e1 sub r
  refine⟨_,DGet.t h1 hb,?_⟩
  rw[<-e2,<-valV_any,<-h2.any];rfl
 ·rename_i kvs k' he
  cases he
  obtain⟨ys,h1,h2⟩:=a
  obtain⟨ks,e1,e2⟩:=Option.map_eq_some_iff.mp e
  rw[keyD_rep e1 r]
  refine⟨_,DGet.k h1,?_⟩
  rw[<-e2,<-valV_any,<-h2.any];rfl
 ·cases e
theorem dget_get {K:PySem.W.Frag}{Hf H:Hp}{t:S}{k:D}{y:V}{o:Option D}{p:Addr}(e:dget (some (some t)) k=some o)(sub:Same Hf H)(a:S.at K Hf H p t)(r:Rep K Hf k y):∃ov,DGet H p y ov/\match o with
  |some d=>∃v,ov=some v/\Rep K Hf d v
  |none=>ov=none:=by
 cases t with
 |im d=>simp[dget] at e
 |xc x=>simp[dget] at e
 |fn x=>simp[dget] at e
 |ow ds=>simp[dget] at e
 |od kvs =>
  cases k with
  |tup ds =>
   obtain⟨ys,h1,h2⟩:=a
   obtain⟨ks,e1,e2⟩:=Option.map_eq_some_iff.mp e
   obtain⟨b',rfl,hb⟩:=key_at e1 sub r
   refine⟨_,DGet.t h1 hb,?_⟩
   cases o with
   |some d=>exact h2.get ks e2
   |none=>exact h2.none ks e2
  |non=>simp[dget] at e
  |bl _=>simp[dget] at e
  |int _=>simp[dget] at e
  |str _=>simp[dget] at e
  |lst _=>simp[dget] at e
 |dk kvs =>
  obtain⟨ys,h1,h2⟩:=a
  obtain⟨ks,e1,e2⟩:=Option.map_eq_some_iff.mp (show(keyD k).map (Qq kvs)=some o from e)
  rw[keyD_rep e1 r]
  refine⟨_,DGet.k h1,?_⟩
  cases o with
  |some d=>exact h2.get ks e2
  |none=>exact h2.none ks e2
def sDPut (i:Nat)(fk fv:DSt->M D)(sd:DSt):M O:=if isDct sd[i]? then((fv sd).bind fun v=>(fk sd).bind fun k=>match dput sd[i]? k v with
 |some t=>.ok (.nx (sd.set i (some t)))
 |none=>.bad) else .bad
theorem psd_dput (i:Nat){fk fv:DSt->M D}(hu:X.A.units+64<cLine)(hk:PEd X E key fk)(hv:PEd X E value fv)(hi:X.N[i]?=some x:=by rfl)(hvis:Vis X.env.scope x:=by first|exact Or.inl rfl|exact Or.inr (Or.inl rfl)|exact Or.inr (Or.inr rfl))
  (hd:(x==("__debug__" : Str))=false:=by decide) (hcd:(x==("__classdict__" : Str))=false:=by decide) (hs:swapsWith value (some (.Subscript (.Name x p1) key pos')) pos.line X.env=pure false:=by rfl) :
  PSd X E (.Assign [.Subscript (.Name x p1) key pos'] value pos) (sDPut i fk fv):=by
 obtain⟨tk,pk,qk⟩:=hk
 obtain⟨tv,pv,qv⟩:=hv
 refine⟨_,ps_dput (by lia) (Ym hi hvis hd hcd) pk pv hs,fun H0 B Hf sd σ H D sr h=>?_⟩
 unfold sDPut at h
 split at h
 case isFalse=>exact h.elim
 case isTrue hdc =>
 obtain⟨t,et,ot⟩:=dct_own hdc
 obtain⟨p,z1,z2,z3,z4⟩:=sr.ow i t et ot
 refine qv H0 B Hf sd σ H _ sr (PoS.bind sr h fun dv v Hf1 H1 _ g1 sr1 rv h1=>?_)
 refine⟨_,z1,?_⟩
 refine qk H0 B Hf1 sd σ H1 _ sr1 (PoS.bind sr1 h1 fun dk y Hf2 H2 _ g2 sr2 ry h2=>?_)
 obtain⟨p',z1',_,_,z4'⟩:=sr2.ow i t et ot
 rw[z1] at z1'
 cases z1'
 have rv2:=Rep.mono g2.fz rv
 have nl:∀{κ:Type} {kvs:List (κ×DL.D)} {ys:List (κ×V)},RepKV X.K Hf2 kvs ys->kvs.length<=1000000->ys.length<sizeLine:=fun {κ kvs ys} r hl=>by
  have:=Paired.length r
  have h2:=sizeLine_eq
  lia
 rw[et] at h2
 split at h2
 ·rename_i u eu
  cases t with
  |im d=>cases ot
  |xc x=>cases ot
  |fn x=>cases ot
  |ow ds=>simp[dput] at eu
  |od kvs =>
   obtain⟨ys,a1,a2⟩:=z4'
   cases dk with
   |tup ds =>
    unfold dput at eu
    dsimp only at eu
    split at eu
    ·rename_i ks ek
     split at eu
     ·rename_i hl
      cases eu
      obtain⟨b,rfl,hb⟩:=key_at ek sr2.sub ry
      exact⟨p,_,rfl,DPut.t a1 hb (nl a2 hl),h2 _ Hf2 _ (Same.refl _) (sr2.change et ot z1 rfl ⟨_,Zo,a2.put ks rv2⟩)⟩
     ·cases eu
    ·cases eu
   |non=>simp[dput] at eu
   |bl _=>simp[dput] at eu
   |int _=>simp[dput] at eu
   |str _=>simp[dput] at eu
   |lst _=>simp[dput] at eu
  |dk kvs =>
   obtain⟨ys,a1,a2⟩:=z4'
   have eu:(match keyD dk with
    |some k=>if kvs.length<=1000000 then some (S.dk (putD kvs k dv)) else none
    |none=>none)=some u:=eu
   split at eu
   ·rename_i ks ek
    split at eu
    ·rename_i hl
     cases eu
     rw[keyD_rep ek ry]
     exact⟨p,_,rfl,DPut.k a1 (nl a2 hl),h2 _ Hf2 _ (Same.refl _) (sr2.change et ot z1 rfl ⟨_,Zo,a2.put ks rv2⟩)⟩
    ·cases eu
   ·cases eu
 ·exact h2.elim
def eDIn (i:Nat)(fk:DSt->M D)(sd:DSt):M D:=if isDct sd[i]? then((fk sd).bind fun k=>match dhas sd[i]? k with
 |some b=>.ok (.bl b)
 |none=>.bad) else .bad
theorem din_core {H0:Hp}{B:Addr->Prop}{Hf:Hp}{sd:DSt}{σ:L2.St}{H:Hp}{Q:VK}{i:Nat}{fk:DSt->M D}{tk:TE}{g:Bool->Bool}(qk:∀(H0:Hp) (B:Addr->Prop) (Hf:Hp) (sd:DSt) (σ:L2.St) (H:Hp) (Q:VK),SR X.K H0 B Hf sd σ H->Po X.K E (rV X.K) Hf H (fk sd) Q->tk σ H Q)(sr:SR X.K H0 B Hf sd σ H)(hdc:isDct sd[i]?=true)(h:Po X.K E (rV X.K) Hf H ((fk sd).bind fun k=>match dhas sd[i]? k with
   |some b=>.ok (.bl (g b))
   |none=>.bad) Q):tk σ H fun y H1=>∃v,σ[i]?=some (some v)/\∃a o,v=.ref a/\DGet H1 a y o/\Q (.bl (g o.isSome)) H1:=by
 obtain⟨t,et,ot⟩:=dct_own hdc
 refine qk H0 B Hf sd σ H _ sr (Po.bind h fun dk y Hf1 H1 _ g1 ry h1=>?_)
 obtain⟨p,z1,z2,z3,z4⟩:=(sr.gr g1).ow i t et ot
 rw[et] at h1
 split at h1
 ·rename_i b eb
  obtain⟨o,d1,d2⟩:=dhas_get eb g1.sub z4 ry
  refine⟨_,z1,p,o,rfl,d1,?_⟩
  rw[d2]
  exact Po.ret (R:=rV X.K) g1.sub h1 (rep_bl.mpr rfl)
 ·exact h1.elim
end
section
variable {X:Cx} {E:XK} {e:Expr}
end
def clOf (cells:List (Str×Addr)):List (Str×NameKind)->List (Str×Addr)->List (Str×Addr)
 |[],acc=>acc
 |(n,k)::r,acc=>if k==NameKind.free then(match cells.lookup n with
  |some c=>clOf cells r ((n,c)::acc)
  |none=>clOf cells r acc) else clOf cells r acc
theorem clOf_mem (cells:List (Str×Addr)):∀(names:List (Str×NameKind)) (acc:List (Str×Addr)),(∀p∈acc,cells.lookup p.1=some p.2)->∀p∈clOf cells names acc,cells.lookup p.1=some p.2
 |[],acc,h=>h
 |(n,k)::r,acc,h=>by
  unfold clOf
  split
  ·split
   ·rename_i c hc
    refine clOf_mem cells r _ fun p hp=>?_
    rcases List.mem_cons.mp hp with rfl|hp
    ·exact hc
    ·exact h p hp
   ·exact clOf_mem cells r acc h
  ·exact clOf_mem cells r acc h
theorem clOf_keep (cells:List (Str×Addr)):∀(names:List (Str×NameKind)) (acc:List (Str×Addr)),∀p∈acc,p∈clOf cells names acc
 |[],acc,p,h=>h
 |(n,k)::r,acc,p,h=>by
  unfold clOf
  split
  ·split
   ·exact clOf_keep cells r _ p (List.mem_cons_of_mem _ h)
   ·exact clOf_keep cells r acc p h
  ·exact clOf_keep cells r acc p h
theorem clOf_has (cells:List (Str×Addr)):∀(names:List (Str×NameKind)) (acc:List (Str×Addr)) (n:Str) (c:Addr),(n,NameKind.free)∈names->cells.lookup n=some c->(n,c)∈clOf cells names acc
 |[],_,_,_,h,_=>by cases h
 |(m,k)::r,acc,n,c,h,hc=>by
  unfold clOf
  rcases List.mem_cons.mp h with h|h
  ·cases h
   rw[if_pos (by decide),hc]
   exact clOf_keep cells r _ _ List.mem_cons_self
  ·split
   ·split
    ·exact clOf_has cells r _ n c h hc
    ·exact clOf_has cells r _ n c h hc
   ·exact clOf_has cells r _ n c h hc
theorem lookup_mem {β:Type}:∀{l:List (Str×β)} {n:Str} {c:β},l.lookup n=some c->(n,c)∈l:=fun h=>PySem.mem_of_lookup h
theorem lookup_some {β:Type}:∀{l:List (Str×β)} {n:Str} {c:β},(n,c)∈l->∃d,l.lookup n=some d
 |[],_,_,h=>by cases h
 |(m,d)::r,n,c,h=>by
  rw[List.lookup_cons]
  by_cases e:n=m
  ·subst e;exact⟨d,by simp⟩
  ·have e':(n==m)=false:=beq_eq_false_iff_ne.mpr e
   rw[e']
   rcases List.mem_cons.mp h with h|h
   ·cases h;exact absurd rfl e
   ·exact lookup_some h
theorem closure_eq {scope:Scope}{env:Env}(h:∀y∈scope.names,y.2=.free->∃c,env.cells.lookup y.1=some c):closureFor scope env=pure (clOf env.cells scope.names []):=by
 have key:∀(names:List (Str×NameKind)) (acc:List (Str×Addr)),(∀y∈names,y.2=.free->∃c,env.cells.lookup y.1=some c) ->
   (forIn names acc fun(x:Str×NameKind) (cs:List (Str×Addr))=>(do
    if x.2==.free then
     let c <-cellOf env x.1
     pure (ForInStep.yield ((x.1,c)::cs))
    else pure (ForInStep.yield cs):Sem _))=pure (clOf env.cells names acc):=by
  intro names
  induction names with
  |nil=>intro acc _;rfl
  |cons y r ih =>
   intro acc hy
   obtain⟨n,k⟩:=y
   rw[List.forIn_cons]
   unfold clOf
   by_cases hk:(k==NameKind.free)=true
   ·obtain⟨c,hc⟩:=hy (n,k) List.mem_cons_self (by simpa using hk)
    have e1:cellOf env n=pure c:=by unfold cellOf;rw[hc]
    simp only[hk,if_true,e1,hc,pure_bind]
    exact ih _ fun z hz=>hy z (List.mem_cons_of_mem _ hz)
   ·simp only[hk,Bool.false_eq_true,if_false,pure_bind]
    exact ih _ fun z hz=>hy z (List.mem_cons_of_mem _ hz)
 have e:=key scope.names [] h
 unfold closureFor
 simp only[bind_pure]
 exact e
theorem capN {X:Cx}{Nc:List Str}{n0:Nat}{caps:List Nat}{scope sc:Scope}(hsc:X.env.scope=sc)(hkf:sc.kind=.function)(hcell:∀y∈scope.names,y.2≠.cell)(hfree:∀y∈scope.names,y.2=.free->sc.names.lookup y.1=some .cell)(hcl:∀y∈scope.names,y.2=.free->∃c,X.env.cells.lookup y.1=some c)(hl:Nc.length=n0+caps.length)(hcap:∀(i j:Nat) (x:Str),Nc[n0+i]?=some x->caps[i]?=some j->X.N[j]?=some x/\scope.names.lookup x=some .free):CapOk X Nc n0 caps scope (clOf X.env.cells scope.names []):=by
 have frees:∀(l:List (Str×NameKind)) (y:Str),(∀p∈l,p.2≠.cell)->(∀p∈l,p.2=.free->sc.names.lookup p.1=some .cell) ->
   ((l.map fun(n,k)=>if(k==NameKind.free&&X.env.scope.kind==.function&&X.env.kindOf n==some .cell) then(n,NameKind.cell) else(n,k)).lookup y=some .cell\/(l.map fun(n,k)=>if(k==NameKind.free&&X.env.scope.kind==.function&&X.env.kindOf n==some .cell) then(n,NameKind.cell) else(n,k)).lookup y=some .free)->(y,NameKind.free)∈l:=by
  intro l y
  induction l with
  |nil=>intro _ _ e;rcases e with e|e<;>cases e
  |cons p r ih =>
   intro h1 h2 e
   obtain⟨n,k⟩:=p
   have c1:=h1 (n,k) List.mem_cons_self
   rw[List.map_cons,List.lookup_cons] at e
   have hfst:(if(k==NameKind.free&&X.env.scope.kind==.function&&X.env.kindOf n==some .cell) then(n,NameKind.cell) else(n,k)).1=n:=by split<;>rfl
   by_cases ey:y=n
   ·subst ey
    simp only[hfst,beq_self_eq_true] at e
    by_cases hk:k=.free
    ·subst hk;exact List.mem_cons_self
    ·have hk':(k==NameKind.free)=false:=beq_eq_false_iff_ne.mpr hk
     simp only[hk',Bool.false_and,Bool.false_eq_true,if_false] at e
     rcases e with e|e
     ·cases e;exact absurd rfl c1
     ·cases e;exact absurd rfl hk
   ·have ey':(y==n)=false:=beq_eq_false_iff_ne.mpr ey
    simp only[hfst,ey'] at e
    exact List.mem_cons_of_mem _ (ih (fun p hp=>h1 p (List.mem_cons_of_mem _ hp)) (fun p hp=>h2 p (List.mem_cons_of_mem _ hp)) e)
 refine⟨fun y c e=>clOf_mem _ _ [] (fun p hp=>by cases hp) _ (lookup_mem e),fun y e=>?_,fun i j x e1 e2=>?_,hl⟩
 ·have hm:=frees scope.names y hcell hfree e
  obtain⟨c,hc⟩:=hcl _ hm rfl
  obtain⟨d,hd⟩:=lookup_some (clOf_has X.env.cells scope.names [] y c hm hc)
  exact⟨d,hd⟩
 ·obtain⟨a1,a2⟩:=hcap i j x e1 e2
  have a3:=hfree _ (lookup_mem a2) rfl
  refine⟨a1,by rw[hsc];exact a3,?_⟩
  have rl:∀(l:List (Str×NameKind)),l.lookup x=some .free->(l.map fun(n,k)=>if(k==NameKind.free&&X.env.scope.kind==.function&&X.env.kindOf n==some .cell) then(n,NameKind.cell) else(n,k)).lookup x=some .cell:=by
   intro l
   induction l with
   |nil=>intro e;cases e
   |cons p r ih =>
    intro e
    obtain⟨n,k⟩:=p
    rw[List.map_cons,List.lookup_cons]
    rw[List.lookup_cons] at e
    have hfst:(if(k==NameKind.free&&X.env.scope.kind==.function&&X.env.kindOf n==some .cell) then(n,NameKind.cell) else(n,k)).1=n:=by split<;>rfl
    by_cases ex:x=n
    ·subst ex
     simp only[beq_self_eq_true] at e
     cases e
     have c3:X.env.kindOf x=some .cell:=by show X.env.scope.names.lookup x=_;rw[hsc];exact a3
     have c4:X.env.scope.kind=.function:=by rw[hsc];exact hkf
     simp only[hfst,beq_self_eq_true,c3,c4,Bool.and_true,if_true]
    ·have ex':(x==n)=false:=beq_eq_false_iff_ne.mpr ex
     simp only[ex'] at e
     simp only[hfst,ex']
     exact ih e
  exact rl _ a2
end DL
set_option maxHeartbeats 4000000
namespace DL
open PySem PySem.Spec PyProof.Rows L2
def capFB (sc names:List (Str×NameKind)):Bool:=names.all fun y=>!(decide (y.2=NameKind.free))||decide (sc.lookup y.1=some NameKind.cell)
theorem capF {sc scope:Scope}(h:capFB sc.names scope.names=true):∀y∈scope.names,y.2=.free->sc.names.lookup y.1=some .cell:=fun y hy hf=>by
 have:=List.all_eq_true.mp h y hy
 rw[Bool.or_eq_true] at this
 rcases this with z|z
 ·rw[decide_eq_true hf] at z;cases z
 ·exact of_decide_eq_true z
def capB (N:List Str)(names:List (Str×NameKind)):List Str->List Nat->Bool
 |x::xs,j::js=>decide (N[j]?=some x)&&decide (names.lookup x=some NameKind.free)&&capB N names xs js
 |_,_=>true
theorem capB_get {N:List Str}{names:List (Str×NameKind)}:∀{xs:List Str} {js:List Nat},capB N names xs js=true->∀(i j:Nat) (x:Str),xs[i]?=some x->js[i]?=some j->N[j]?=some x/\names.lookup x=some .free
 |[],_,_,i,_,_,e,_=>by simp at e
 |_::_,[],_,i,_,_,_,e=>by simp at e
 |x::xs,j::js,h,0,j',x',e1,e2=>by
  unfold capB at h
  rw[Bool.and_eq_true,Bool.and_eq_true] at h
  simp at e1 e2
  subst e1 e2
  exact⟨of_decide_eq_true h.1.1,of_decide_eq_true h.1.2⟩
 |x::xs,j::js,h,i+1,j',x',e1,e2=>by
  unfold capB at h
  rw[Bool.and_eq_true] at h
  exact capB_get h.2 i j' x' (by simpa using e1) (by simpa using e2)
theorem capB_ok {X:Cx}{N:List Str}{Nc:List Str}{n0:Nat}{caps:List Nat}{scope:Scope}(hN:X.N=N)(h:capB N scope.names (Nc.drop n0) caps=true) :
  ∀(i j:Nat) (x:Str),Nc[n0+i]?=some x->caps[i]?=some j->X.N[j]?=some x/\scope.names.lookup x=some .free:=fun i j x e1 e2=>by
 rw[hN]
 exact capB_get h i j x (by rw[List.getElem?_drop];exact e1) e2
section
variable {X:Cx} {E:XK} {pos p p1 p2:Pos} {a e:Expr} {x:Str}
def UnD (X:Cx)(E:XK)(f:Value->Sem Value)(g:D->M D):Prop :=
 ∃r,UnR X f r/\∀(Hf H:Hp) (x:V) (dx:D) (Q:VK),Same Hf H->Rep X.K Hf dx x->Po X.K E (rV X.K) Hf H (g dx) Q->r x H Q
def gNeg:D->M D
 |.int i=>.ok (.int (-i))
 |_=>.bad
theorem ud_neg:UnD X E (unaryOp .USub) gNeg:=by
 refine⟨_,un_neg,fun Hf H x dx Q e rx q=>?_⟩
 unfold gNeg at q
 split at q
 ·exact⟨_,rep_int.mp rx,Po.ret e q (rep_int.mpr rfl)⟩
 ·exact q.elim
def eUn (g:D->M D)(f:DSt->M D)(sd:DSt):M D:=(f sd).bind g
theorem pd_un {op:UnaryOp}{g:D->M D}{f:DSt->M D}(ho:UnD X E (unaryOp op) g)(h:PEd X E a f):PEd X E (.UnaryOp op a pos) (eUn g f):=by
 obtain⟨r,hr,qr⟩:=ho
 obtain⟨t,p,q⟩:=h
 refine⟨_,pe_un hr p,fun H0 B Hf sd σ H Q sr h=>?_⟩
 exact q H0 B Hf sd σ H _ sr (Po.bind h fun d v Hf1 H1 _ g1 rv h1=>qr Hf1 H1 v d Q g1.sub rv h1)
end
section
variable {prog:Program} {w:World} {A:Around} {E:Value->Shared->Prop} {s:Shared}
theorem sliceApplied_rev {sl:Addr}{t:Tok}{n:Nat}{Q:Int×Int×Nat->Shared->Prop}(hs:s.heap.IsSliceOf sl .none .none (.int (-1) t))(h:Q ((n:Int) - 1,-1,n) s):wpAny (model prog w) A (Builtin.Slice.sliceApplied (.ref sl) (pure (n:Int))) Q E s:=by
 obtain⟨os,hos,hcs,hds⟩:=id hs
 unfold Builtin.Slice.sliceApplied Builtin.Slice.sliceFields
 refine wpAny_bind (wpAny_bind (wpAny_field hos hds (x:=.none) rfl (wpAny_bind (wpAny_field hos hds (x:=.none) rfl (wpAny_bind (wpAny_field hos hds (x:=.int (-1) t) rfl (wpAny_pure ?_)))))))
 refine wpAny_bind (slicePart_int ?_)
 show wpAny _ _ (if((-1:Int)==0)=true then _ else _) _ _ s
 rw[if_neg (by decide)]
 refine wpAny_bind (slicePart_none (wpAny_bind (slicePart_none (wpAny_bind (wpAny_pure ?_)))))
 show wpAny _ _ (match Builtin.Slice.sliceAdjust none none (-1) (n:Int) with|(lo,hi)=>pure (lo,(-1:Int),Builtin.Slice.slicePlaces lo hi (-1))) _ _ s
 have e1:Builtin.Slice.sliceAdjust none none (-1) (n:Int)=((n:Int) - 1,-1):=by
  unfold Builtin.Slice.sliceAdjust
  simp
 have e2:Builtin.Slice.slicePlaces ((n:Int) - 1) (-1) (-1)=n:=by
  unfold Builtin.Slice.slicePlaces
  simp
  split<;>lia
 rw[e1]
 show wpAny _ _ (pure ((n:Int) - 1,(-1:Int),Builtin.Slice.slicePlaces ((n:Int) - 1) (-1) (-1))) _ _ s
 rw[e2]
 exact wpAny_pure h
theorem fm_congr {α β:Type}{f g:α->Option β}:∀{l:List α},(∀a∈l,f a=g a)->l.filterMap f=l.filterMap g
 |[],_=>rfl
 |a::l,h=>by
  rw[List.filterMap_cons,List.filterMap_cons,h a List.mem_cons_self,fm_congr fun b hb=>h b (List.mem_cons_of_mem _ hb)]
theorem pick_rev (xs:Array Value):((List.range xs.size).filterMap fun(m:Nat)=>xs[(((xs.size:Int) - 1)+(m:Int)*(-1)).toNat]?).toArray=xs.toList.reverse.toArray:=by
 have h:=HT.pick_gen xs.toList.reverse.toArray 0 xs.size
 have e:(List.range xs.size).filterMap (fun(m:Nat)=>xs[(((xs.size:Int) - 1)+(m:Int)*(-1)).toNat]?)=(List.range xs.size).filterMap (fun(m:Nat)=>xs.toList.reverse.toArray[(((0:Nat):Int)+(m:Int)*1).toNat]?):=by
  refine fm_congr fun m hm=>?_
  have hm:=List.mem_range.mp hm
  have e1:(((xs.size:Int) - 1)+(m:Int)*(-1)).toNat=xs.size - 1 - m:=by lia
  have e2:(((0:Nat):Int)+(m:Int)*1).toNat=m:=by lia
  rw[e1,e2]
  simp only[List.getElem?_toArray]
  rw[List.getElem?_reverse (by simpa using hm)]
  simp
 rw[e,h]
 have hl:xs.toList.reverse.length=xs.size:=by simp
 show((xs.toList.reverse.drop 0).take xs.size).toArray=_
 rw[List.drop_zero,<-hl,List.take_length]
theorem getItem_tuple_rev {t sl:Addr}{items:Array Value}{tk:Tok}{Q:Value->Shared->Prop}(ht:IsTup s.heap t items)(hs:s.heap.IsSliceOf sl .none .none (.int (-1) tk))
  (h:Q (.ref s.heap.objs.size) { s with heap:=s.heap.push { cls:=.type "tuple", data:=.seq items.toList.reverse.toArray } })
  (hsz:items.size<=sizeLine):wpAny (model prog w) A (getItem (.ref t) (.ref sl)) Q E s:=by
 have htake:sizeOk (.seq items.toList.reverse.toArray):=by
  show items.toList.reverse.toArray.size<=sizeLine
  simpa using hsz
 obtain⟨os,hos,hcs,hds⟩:=id hs
 have hTs:s.TypeIs (.ref sl) "slice" := ⟨os,hos,hcs⟩
 unfold getItem
 try with_reducible refine wpAny_holding ?_
 first|refine wpAny_bind (wpAny_pure ?_)|skip
 refine wpAny_bind (wpAny_sequenceKey ht.typeIs (by decide) ?_)
 refine wpAny_bind (wpAny_callSpecial?_slot (name:=Str.ofString "__getitem__") ht.typeIs PyProof.Rows.slot_tuple_getitem
  (wpAny_call_entry PyProof.Rows.slot_tuple_getitem ht.typeIs entry_tuple_getitem ?_ (args_tuple_getitem _ _)))
 show wpAny _ _ (Builtin.Tuple.tupleItemsOf (.ref t)>>=_) _ _ s
 refine wpAny_bind (tupleItemsOf_ ht ?_)
 refine wpAny_bind (wpAny_typeOf hTs ?_)
 rw[if_pos (by decide)]
 refine wpAny_bind (sliceApplied_rev hs ?_)
 show wpAny _ _ (if(((items.size:Int) - 1)==0&&(-1:Int)==1&&items.size==items.size)=true then _ else _) _ _ s
 rw[if_neg (by simp),pick_rev]
 first
  |exact wpAny_bind (m:=Builtin.Tuple.tupleExact _) (wpAny_newObj_type (wpAny_pure ⟨_,rfl,wpAny_pure h⟩) htake)
  |exact wpAny_bind (m:=Builtin.Tuple.tupleExact _) (wpAny_newObj_type (wpAny_bind (wpAny_pure (wpAny_pure ⟨_,rfl,wpAny_pure h⟩))) htake)
  |exact wpAny_bind (wpAny_bind (m:=Builtin.Tuple.tupleExact _) (wpAny_newObj_type (wpAny_pure (wpAny_pure ⟨_,rfl,wpAny_pure h⟩)) htake))
  |exact wpAny_bind (wpAny_bind (m:=Builtin.Tuple.tupleExact _) (wpAny_newObj_type (wpAny_pure ⟨_,rfl,wpAny_pure h⟩) htake))
end
theorem Vals.rev:∀{xs:List V} {us:List Value},Vals xs us->Vals xs.reverse us.reverse
 |_,_,.nil=>.nil
 |_,_,.cons r t=>by
  rw[List.reverse_cons,List.reverse_cons]
  exact(Vals.rev t).append (.cons r .nil)
theorem Reps.rev {K:PySem.W.Frag}{H:Hp}:∀{ds:List D} {xs:List V},Reps K H ds xs->Reps K H ds.reverse xs.reverse
 |[],xs,h=>by rw[reps_nil.mp h];exact Reps.nil
 |d::ds,xs,h=>by
  obtain⟨x,r,rfl,h1,h2⟩:=reps_cons.mp h
  rw[List.reverse_cons,List.reverse_cons]
  exact(Reps.rev h2).append (Reps.cons h1 Reps.nil)
section
variable {X:Cx} {E:XK} {pos p2 p3 p4:Pos} {e:Expr}
end
end DL
set_option maxHeartbeats 4000000
namespace DL
open PySem PySem.Spec PyProof.Rows L2
section
variable {X:Cx} {E:XK} {pos:Pos} {a b c:Expr}
def eChain (g g':D->D->M D)(fa fb fc:DSt->M D)(sd:DSt):M D:=(fa sd).bind fun x=>(fb sd).bind fun y=>(g x y).bind fun r=>(asB r).bind fun k=>if k then((fc sd).bind fun z=>g' y z) else .ok (.bl false)
theorem chain_core {fa fb fc:DSt->M D}{g g':D->D->M D}{ta tb tc:TE}{r r':R2}{H0:Hp}{B:Addr->Prop}{Hf:Hp}{sd:DSt}{σ:L2.St}{H:Hp}{Q:VK}(qa:∀(H0:Hp) (B:Addr->Prop) (Hf:Hp) (sd:DSt) (σ:L2.St) (H:Hp) (Q:VK),SR X.K H0 B Hf sd σ H->Po X.K E (rV X.K) Hf H (fa sd) Q->ta σ H Q)(qb:∀(H0:Hp) (B:Addr->Prop) (Hf:Hp) (sd:DSt) (σ:L2.St) (H:Hp) (Q:VK),SR X.K H0 B Hf sd σ H->Po X.K E (rV X.K) Hf H (fb sd) Q->tb σ H Q)(qc:∀(H0:Hp) (B:Addr->Prop) (Hf:Hp) (sd:DSt) (σ:L2.St) (H:Hp) (Q:VK),SR X.K H0 B Hf sd σ H->Po X.K E (rV X.K) Hf H (fc sd) Q->tc σ H Q)(qr:∀(Hf H:Hp) (x y:V) (dx dy:D) (Q:VK),Same Hf H->Rep X.K Hf dx x->Rep X.K Hf dy y->Po X.K E (rV X.K) Hf H (g dx dy) Q->r x y H Q)(qr':∀(Hf H:Hp) (x y:V) (dx dy:D) (Q:VK),Same Hf H->Rep X.K Hf dx x->Rep X.K Hf dy y->Po X.K E (rV X.K) Hf H (g' dx dy) Q->r' x y H Q)(sr:SR X.K H0 B Hf sd σ H)(h:Po X.K E (rV X.K) Hf H (eChain g g' fa fb fc sd) Q):tChain r r' ta tb tc σ H Q:=by
 refine qa H0 B Hf sd σ H _ sr (Po.bind h fun dx x Hf1 H1 _ g1 rx h1=>?_)
 have sr1:=sr.gr g1
 refine qb H0 B Hf1 sd σ H1 _ sr1 (Po.bind h1 fun dy y Hf2 H2 _ g2 ry h2=>?_)
 have sr2:=sr1.gr g2
 refine qr Hf2 H2 x y dx dy _ g2.sub (Rep.mono g2.fz rx) ry (Po.bind h2 fun dz z Hf3 H3 _ g3 rz h3=>?_)
 have sr3:=sr2.gr g3
 obtain⟨k,rfl,h4⟩:=Po.asB h3
 refine⟨k,rep_bl.mp rz,?_⟩
 cases k with
 |true =>
  rw[if_pos rfl] at h4 ⊢
  exact qc H0 B Hf3 sd σ H3 _ sr3 (Po.bind h4 fun dw w' Hf4 H4 _ g4 rw' h5=>qr' Hf4 H4 y w' dy dw Q g4.sub (Rep.mono g4.fz (Rep.mono g3.fz ry)) rw' h5)
 |false =>
  rw[if_neg Bool.false_ne_true] at h4 ⊢
  exact Po.ret (R:=rV X.K) g3.sub h4 (rep_bl.mpr rfl)
theorem ptd_chain {op op':CmpOp}{g g':D->D->M D}{fa fb fc:DSt->M D}(ho:OpD X E (compareOp op) g)(ho':OpD X E (compareOp op') g')(ha:PEd X E a fa)(hb:PEd X E b fb)(hc:PEd X E c fc)(hm:lastMarks [op,op'] [b,c]=false:=by with_unfolding_all rfl):PTd X E (.Compare a [op,op'] [b,c] pos) (DL.tB (eChain g g' fa fb fc)):=by
 obtain⟨r,hr,qr⟩:=ho
 obtain⟨r',hr',qr'⟩:=ho'
 obtain⟨ta,pa,qa⟩:=ha
 obtain⟨tb,pb,qb⟩:=hb
 obtain⟨tc,pc,qc⟩:=hc
 refine⟨_,pt_chain hr hr' pa pb pc hm,fun H0 B Hf sd σ H Q sr h=>?_⟩
 refine chain_core qa qb qc qr qr' sr (Po.bind h fun d v Hf1 H1 _ g1 rv h1=>?_)
 unfold DL.asB at h1
 split at h1
 ·exact⟨_,rep_bl.mp rv,Po.ret (R:=rQ) g1.sub h1 rfl⟩
 ·exact h1.elim
end
end DL
set_option maxHeartbeats 4000000
set_option linter.all false
namespace DL
open PySem PySem.Spec PyProof.Rows L2
def Nt (h:Heap)(a:Addr)(c:Value)(dx:Option Addr)(T:Addr)(fl:Value):Prop :=
 ∃oe vs,h.get? a=some oe/\oe.cls=c/\oe.dict=dx/\oe.data=.fields vs/\1<vs.size /\
  ((T=a/\vs[1]?=some .none)\/(T≠a/\vs[1]?=some (.ref T)/\∃oT ts,h.get? T=some oT/\oT.data=.fields ts/\ts[3]?=some fl))
structure Ch (fr:List Addr) (a T:Addr) (h h':Heap):Prop where
 keep:∀b o,b≠a->b≠T->b ∉ fr->h.get? b=some o->h'.get? b=some o
 slot:∀b o,b≠a->b≠T->h.get? b=some o->∃sl,h'.get? b=some { o with slots:=sl }
section
variable {M:Model} {A:Around} {E:Value->Shared->Prop} {s:Shared}
theorem entry_at {base:Heap}{env:Env}{outer:List Env}{L a:Addr}{oe:Obj}{vs:Array Value}{head:Value}{hadNext:Bool}{Q:Unit->Shared->Prop}(hA:A.frames=some (env::outer))(hF:s.heap.FunFrames base (env::outer))(hL:env.frame=some L)(ho:s.heap.get? a=some oe)(hv:oe.data=.fields vs)(hz:1<vs.size)(k:∀h' T,s.heap.objs.size<=T->Nt h' a oe.cls oe.dict T (rawInt L)->T≠a->Ch (frs (env::outer)) a a s.heap h'->Q () { s with heap:=h' }) :
  wpAny M A (do let p <-frameOf env;let pl <-entryPlaceOf L hadNext;let b <-EntryCells.newEntry head p .none (rawInt L) .none pl;setField (.ref a) 1 b) Q E s:=by
 have na:a ∉ (env::outer).filterMap (·.frame):=fun z=>by
  obtain⟨_,o,q,nf⟩:=hF.mem z
  rw[ho] at q;cases q;exact nf vs hv
 refine wpAny_bind (wpAny_frameOf_fun hA hF hL fun g sl=>?_)
 refine wpAny_bind (wpAny_entryPlaceOf fun pl hp=>?_)
 unfold EntryCells.newEntry newFields
 refine wpAny_bind (wpAny_newObj_type ?_ (hp.sizeOk5 _ _ _ _ _))
 have ga:g.get? a=some oe:=(sl.2.1 a na).trans ho
 have nT:g.objs.size≠a:=Nat.ne_of_gt (Heap.lt_size ga)
 refine wpAny_setField (Heap.get?_push_of_some _ ga) hv hz ?_
 have zs:s.heap.objs.size<=g.objs.size:=by
  have:=sl.1
  lia
 have da:=Obj.data_mapFields hv (·.setIfInBounds 1 (Value.ref g.objs.size))
 refine k _ g.objs.size zs ⟨_,_,Heap.get?_update_self _ (Heap.get?_push_of_some _ ga) (Obj.isFreed_of_fields da),Obj.cls_mapFields _ _,?_,da,by simpa using hz,.inr ⟨nT,by simp[hz],_,_,(Heap.get?_update_other _ _ (Ne.symm nT)).trans (Heap.get?_push_size g rfl),rfl,?_⟩⟩ nT ⟨fun b o n1 n2 nf q=>?_,fun b o n1 n2 q=>?_⟩
 ·obtain⟨c,d,dt,sls⟩:=oe
  cases dt<;>first|rfl|cases hv
 ·first|(simp;done)|(rcases hp with rfl|⟨_,_,_,_,_,_,_,rfl⟩<;>simp)
 ·rw[Heap.get?_update_other _ _ (Ne.symm n1)]
  exact Heap.get?_push_of_some _ ((sl.2.1 b nf).trans q)
 ·obtain⟨x,e⟩:=sl.2.2 b o q
  exact⟨x,by rw[Heap.get?_update_other _ _ (Ne.symm n1)];exact Heap.get?_push_of_some _ e⟩
theorem Ch.trans {fr:List Addr}{a T T' U:Addr}{h h1 h2:Heap}(x:Ch fr a T h h1)(y:Ch fr a T' h1 h2)(q:∀b o,b≠a->b≠U->h.get? b=some o->b≠T/\b≠T'):Ch fr a U h h2 :=
 ⟨fun b o n1 n2 nf e=>y.keep b o n1 (q b o n1 n2 e).2 nf (x.keep b o n1 (q b o n1 n2 e).1 nf e),fun b o n1 n2 e=>by
  obtain⟨sl,e1⟩:=x.slot b o n1 (q b o n1 n2 e).1 e
  obtain⟨sl',e2⟩:=y.slot b _ n1 (q b o n1 n2 e).2 e1
  exact⟨sl',e2⟩⟩
theorem note_at {base:Heap}{env:Env}{outer:List Env}{L a T:Addr}{c:Value}{dx:Option Addr}{Q:Unit->Shared->Prop}(hA:A.frames=some (env::outer))(hF:s.heap.FunFrames base (env::outer))(hL:env.frame=some L)(hn:Nt s.heap a c dx T .none)(k:∀h' T',s.heap.objs.size<=T'->Nt h' a c dx T' (rawInt L)->T'≠a->Ch (frs (env::outer)) a T s.heap h'->Q () { s with heap:=h' }):wpAny M A (noteFrame (.ref a) env) Q E s:=by
 obtain⟨oe,vs,ho,hc,hdx,hv,hz,hcase⟩:=hn
 subst hc hdx
 unfold noteFrame
 simp only[hL]
 rcases hcase with⟨rfl,h1⟩|⟨nT,h1,oT,ts,hT,hts,h3⟩
 ·refine wpAny_bind (wpAny_field ho hv h1 ?_)
  rw[if_neg (by decide)]
  exact entry_at hA hF hL ho hv hz k
 ·refine wpAny_bind (wpAny_field ho hv h1 ?_)
  rw[if_pos (show(Value.ref T != Value.none)=true from by simp)]
  refine wpAny_bind (wpAny_field hT hts h3 ?_)
  rw[if_neg (show ¬((Value.none==rawInt L)=true) from by simp[rawInt])]
  refine wpAny_bind (wpAny_setField hT hts (Array.getElem?_eq_some_iff.mp h3).1 ?_)
  have oth:∀b,b≠T->(s.heap.update T (Obj.mapFields (·.setIfInBounds 3 Value.none))).get? b=s.heap.get? b:=fun b nb=>Heap.get?_update_other _ _ (Ne.symm nb)
  have nofr:∀b o,s.heap.get? b=some o->(∀ws,o.data≠.fields ws)->b≠T:=fun b o e nf z=>by
   rw[z,hT] at e;cases e;exact nf ts hts
  refine entry_at hA (hF.of_keeps fun b o e nf=>⟨o,(oth b (nofr b o e nf)).trans e,rfl⟩) hL ((oth a (Ne.symm nT)).trans ho) hv hz fun h' T' z n1 n2 n3=>k h' T' ?_ n1 n2 ⟨fun b o b1 b2 bf e=>n3.keep b o b1 b1 bf ((oth b b2).trans e),fun b o b1 b2 e=>n3.slot b o b1 b1 ((oth b b2).trans e)⟩
  have:=Heap.size_after_update s.heap T (Obj.mapFields (·.setIfInBounds 3 Value.none))
  show s.heap.objs.size<=T'
  have z':(s.heap.update T (Obj.mapFields (·.setIfInBounds 3 Value.none))).objs.size<=T':=z
  lia
theorem flight_at {a T:Addr}{c fl:Value}{dx:Option Addr}{Q:Unit->Shared->Prop}(hn:Nt s.heap a c dx T fl)(nT:T≠a)(k:∀h',h'.objs.size=s.heap.objs.size->Nt h' a c dx T .none->(∀b,b≠T->h'.get? b=s.heap.get? b)->Q () { s with heap:=h' }):wpAny M A (setFlight (.ref a) none) Q E s:=by
 obtain⟨oe,vs,ho,hc,hdx,hv,hz,hcase⟩:=hn
 rcases hcase with⟨e,_⟩|⟨_,h1,oT,ts,hT,hts,h3⟩
 ·exact absurd e nT
 have z3:=(Array.getElem?_eq_some_iff.mp h3).1
 refine wpAny_setFlight_none ho hv h1 hT hts z3 ?_
 have oth:∀b,b≠T->(s.heap.update T (Obj.mapFields (·.setIfInBounds 3 Value.none))).get? b=s.heap.get? b:=fun b nb=>Heap.get?_update_other _ _ (Ne.symm nb)
 have dT:=Obj.data_mapFields hts (·.setIfInBounds 3 Value.none)
 exact k _ (Heap.size_after_update _ _ _) ⟨oe,vs,(oth a (Ne.symm nT)).trans ho,hc,hdx,hv,hz,.inr ⟨nT,h1,_,_,Heap.get?_update_self _ hT (Obj.isFreed_of_fields dT),dT,by simp[Array.getElem?_setIfInBounds,z3]⟩⟩ oth
theorem leave_at {base:Heap}{env:Env}{outer:List Env}{L a T:Addr}{c:Value}{dx:Option Addr}{Q:Unit->Shared->Prop}(hA:A.frames=some (env::outer))(hF:s.heap.FunFrames base (env::outer))(hL:env.frame=some L)(hn:Nt s.heap a c dx T .none)(k:∀h' T',s.heap.objs.size<=T'->Nt h' a c dx T' .none->Ch (frs (env::outer)) a T s.heap h'->Q () { s with heap:=h' }):wpAny M A (leaving env (.ref a)) Q E s:=by
 unfold leaving
 refine wpAny_bind (note_at hA hF hL hn fun h' T' z n1 n2 n3=>?_)
 refine flight_at (s:={ s with heap:=h' }) n1 n2 fun h2 _ n4 oth=>?_
 exact k h2 T' z n4 ⟨fun b o b1 b2 bf e=>(oth b (Nat.ne_of_lt (Nat.lt_of_lt_of_le (Heap.lt_size e) z))).trans (n3.keep b o b1 b2 bf e),fun b o b1 b2 e=>by
  obtain⟨sl,q⟩:=n3.slot b o b1 b2 e
  exact⟨sl,(oth b (Nat.ne_of_lt (Nat.lt_of_lt_of_le (Heap.lt_size e) z))).trans q⟩⟩
end
end DL
set_option maxHeartbeats 4000000
set_option linter.all false
namespace DL
open PySem PySem.Spec PyProof.Rows L2
theorem hok_ch {P:Program}{w:World}{H:Hp}{h h':Heap}{fr:List Addr}{a T:Addr}(x:HOk P w H h)(c:Ch fr a T h h')(na:H a=none)(nT:H T=none)(nf:∀b∈fr,H b=none):HOk P w H h':=fun b u e=>by
 have ne:∀d v,H d=some v->d≠a/\d≠T/\d ∉ fr:=fun d v q=>⟨fun z=>(by rw[z,na] at q;cases q),fun z=>(by rw[z,nT] at q;cases q),fun z=>(by rw[nf d z] at q;cases q)⟩
 refine(x b u e).stay (fun d v hd q=>?_) (fun _ q=>q) fun _ _ q=>q
 have z:d≠a/\d≠T/\d ∉ fr:=by
  rcases hd with rfl|hd
  ·exact ne _ _ e
  ·exact ne _ _ hd
 exact c.keep d v z.1 z.2.1 z.2.2 q
def CX1 (P:Program)(w:World):CXT:=fun outer H s E e s'=>∃a H' c dx T,e=.ref a/\s'.os=s.os/\AllBare s'.gens/\Un (frs outer) [] H H' s.heap s'.heap/\HOk P w H' s'.heap/\Nt s'.heap a c dx T .none /\
 H' a=none/\H' T=none/\s.heap.objs.size<=a/\s.heap.objs.size<=T/\E c dx H'
def Out (X:Cx)(E:XK):Prop:=∀(pins:List (Addr×Obj)) (σ:L2.St) (H:Hp) (s:Shared) (a:Addr) (c:Value) (dx:Option Addr) (T:Addr),Inv X pins σ H s->Nt s.heap a c dx T .none->H a=none->H T=none ->
 X.s₀.heap.objs.size<=a->X.s₀.heap.objs.size<=T->E c dx H->X.xe (.ref a) s
theorem Out.passes {X:Cx}{E:XK}(o:Out X E):Passes (CX1 X.prog X.w) X E:=by
 rintro pins σ H s e s' I ⟨a,H',c,dx,T,rfl,os,bare,un,hok,hn,na,nT,za,zT,q⟩
 exact o pins σ H' s' a c dx T (I.call' os un hok bare (fun b z=>absurd z (by simp))) hn na nT (Nat.le_trans I.sz za) (Nat.le_trans I.sz zT) q
theorem out_fn {P:Program}{w:World}{K:PySem.W.Frag}{mg:Str->Option Value}{base:Heap}{N:List Str}{qual:Str}{scope:Scope}{f:Addr}{cd:Value}{A:Around}{outer:List Env}{s:Shared}{H:Hp}{E:XK} :
  Out (cxOf (CX1 P w) P w K mg base N qual scope f cd A outer s H E) E:=by
 intro pins σ H1 s1 a c dx T I hn na nT za zT q
 have ok:=I.ok
 show wpAny (model P w) (A.deeper (envOfC qual scope s.heap.objs.size f cd)) (leaving (envOfC qual scope s.heap.objs.size f cd) (.ref a)) _ _ s1
 refine leave_at (base:=base) ok.frames I.stack rfl hn fun h' T' z n1 n2=>?_
 have lt:∀{b:Addr} {o:Obj},s.heap.get? b=some o->b≠a/\b≠T/\b≠s.heap.objs.size:=fun {b o} e=>by
  have h1:=Heap.lt_size e
  have za':s.heap.objs.size<=a:=za
  have zT':s.heap.objs.size<=T:=zT
  exact⟨Nat.ne_of_lt (Nat.lt_of_lt_of_le h1 za'),Nat.ne_of_lt (Nat.lt_of_lt_of_le h1 zT'),Nat.ne_of_lt h1⟩
 have nfr:∀{b:Addr} {o:Obj},s.heap.get? b=some o->b ∉ frs outer->b ∉ frs (envOfC qual scope s.heap.objs.size f cd::outer):=fun {b o} e nf zz=>by
  rcases List.mem_cons.mp (I.stkSub b zz) with q1|q1
  ·exact(lt e).2.2 q1
  ·exact nf q1
 have ub:=I.base
 refine⟨a,H1,c,dx,T',rfl,I.os,I.bare,⟨fun b o e n nf nx=>?_,fun b o e n bf nx=>?_,fun b o e n nx=>ub.free b o e n nx,fun b o e nx=>?_,ub.tups,ub.frzs,ub.tbls⟩,hok_ch I.hok n2 na nT I.stkFree,n1,na,I.hok.fresh z,za,Nat.le_trans I.sz z,q⟩
 ·exact n2.keep b o (lt e).1 (lt e).2.1 (nfr e nf) (ub.keep b o e n nf nx)
 ·obtain⟨sl,e1⟩:=ub.slot b o e n bf nx
  obtain⟨sl',e2⟩:=n2.slot b _ (lt e).1 (lt e).2.1 e1
  exact⟨sl',e2⟩
 ·obtain⟨o',e1⟩:=ub.there b o e nx
  obtain⟨sl',e2⟩:=n2.slot b _ (lt e).1 (lt e).2.1 e1
  exact⟨_,e2⟩
def PoC (K:PySem.W.Frag)(Hf H:Hp)(r:M S)(Q:VK)(E:XK):Prop:=match r with
 |.ok s=>∀v Hf' H',Gr Hf H Hf' H'->RS K H Hf' H' s v->Q v H'
 |.ex x=>∀c dx Hf' H',Gr Hf H Hf' H'->RepX K Hf' H' x c dx->E c dx H'
 |.bad=>False
def spX (K:PySem.W.Frag)(F:List D->M S):Sp:=fun vs H Q E=>∃Hf ds,Same Hf H/\Reps K Hf ds vs/\PoC K Hf H (F ds) Q E
theorem fn_x {P:Program}{w:World}{K:PySem.W.Frag}{mg:Str->Option Value}{base:Heap}{x qual:Str}{st:Stmt}{f:Addr}{fd:FuncData}{N ps:List Str}{k m n:Nat}{fb:DSt->M O}(F:Fun K x qual st f fd)(sc:FnScope N ps (Zh st))(hn:ps.length=n)(hN:N.length=n+m)(hbody:∀(cdv:Value) (A:Around) (outer:List Env) (s:Shared) (H:Hp) (E:XK),Room k (A.deeper (envOfC qual (Zh st) s.heap.objs.size f cdv)) ->
   PSsd (cxOf (CX1 P w) P w K mg base N qual (Zh st) f cdv A outer s H E) E (Zz st) fb):FnOk P w K mg base (CX1 P w) (k+1) f fd ps (spX K (fnD n m fb)):=by
 obtain⟨oc,od,kV,doc,pm,an,cdv,ct,osl,rfl,lk,hcd⟩:=F.ex
 refine fn_of lk hcd sc (fun vs H Q E h=>?_) (fun A outer s H vs Q E hr h=>?_)
 ·obtain⟨Hf,ds,e,r,hF⟩:=h
  unfold fnD at hF
  split at hF
  ·rename_i hl
   rw[<-r.length,hl,hn]
  ·exact hF.elim
 ·obtain⟨Hf,ds,e,r,q⟩:=h
  obtain⟨t,p,qt⟩:=hbody cdv A outer s H E hr
  unfold fnD at q
  split at q
  ·rename_i hl
   refine⟨t,p,qt H _ Hf _ (L2.Yy N vs) H _ (sr_start (N:=N) (m:=m) e r (by lia)) ?_⟩
   generalize fb (List.map (fun d=>some (S.im d)) ds++List.replicate m none)=ro at q
   have back:∀{Hf' H':Hp},Same Hf Hf'->Fin' H (fun a=>H a≠none/\Hf a=none) Hf' H'->Gr Hf H Hf' H':=fun e1 e2=>⟨e1,e2.sub,e2.all,fun a h1 h2=>e2.ban a ⟨h1,h2⟩⟩
   cases ro with
   |ok o =>
    cases o with
    |rt s2=>exact fun v Hf' H' e1 e2 e3=>q v Hf' H' (back e1 e2) e3
    |nx sd'=>exact fun σ' Hf' H' e1 sr'=>q .non Hf' H' (back e1 sr'.fin) (show Rep K Hf' .non .non from rep_non.mpr rfl)
    |bk sd'=>exact q.elim
    |ct sd'=>exact q.elim
   |ex x=>exact fun c dx Hf' H' e1 e2 e3=>q c dx Hf' H' (back e1 e2) e3
   |bad=>exact q.elim
  ·exact q.elim
theorem PoC.bind {K:PySem.W.Frag}{E:XK}{Hf H:Hp}{r:M S}{Q:VK}(h:Po K E (rV K) Hf H (r.bind S.toD) Q):PoC K Hf H r Q E:=by
 cases r with
 |bad=>exact h
 |ex x=>exact h
 |ok s =>
  cases s with
  |im d=>exact fun v Hf' H' g rv=>h v Hf' H' g rv
  |ow es =>
   rintro v Hf' H' g2 ⟨p,rfl,e1,e2,xs,e3,e4⟩
   refine h _ (upd Hf' p (.lst xs)) H' ⟨g2.fz.trans (Z4 e2 _),fun b u q=>?_,g2.all,fun a h1 h2=>?_⟩ (rep_lst.mpr ⟨p,xs,rfl,SqL.of Zo,e4.mono (Z4 e2 _)⟩)
   ·by_cases hb:b=p
    ·subst hb;rw[Zo] at q;rw[e3];exact q
    ·rw[Zn hb] at q;exact g2.sub b u q
   ·have:a≠p:=fun z=>h1 (z▸e1)
    rw[Zn this];exact g2.ban a h1 h2
  |od kvs=>exact h.elim
  |dk kvs=>exact h.elim
  |xc x=>exact h.elim
  |fn x=>exact h.elim
def eCallX (F:List D->M S)(fs:DSt->M (List D))(sd:DSt):M D:=(fs sd).bind fun ds=>(F ds).bind S.toD
section
variable {X:Cx} {E:XK} {pos:Pos} {a:Expr}
theorem pd_callX {k:Nat}{f:Addr}{fd:FuncData}{ps:List Str}{F:List D->M S}{x:Str}{p:Pos}{es:List Expr}{fs:DSt->M (List D)}(G:FnOk X.prog X.w X.K X.mg X.base (CX1 X.prog X.w) k f fd ps (spX X.K F))(hr:Room k X.A)(hm:X.mg x=some (.ref f))(hk:PySem.W.keepIn X.K (.ref f)=true)(hb:Binds X.K fd ps [])(ho:Out X E)(ha:PAd X E (a::es) fs)(hg:Gl X x:=by rfl) (hdb:(x==("__debug__" : Str))=false:=by decide) (he:starEach (a::es) X.env=(false,eval a X.env)::starEach es X.env:=by rfl) (hpl:(backTo pos (starEach es X.env)).any (·.1)=false:=by rfl) :
  PEd X E (.Call (.Name x p) (a::es) [] pos) (eCallX F fs):=by
 obtain⟨t,pt,qt⟩:=ha
 refine⟨_,pe_call (dvs:=[]) (E:=E) G hr hg hm hk hb .nil ho.passes pt hdb he hpl,fun H0 B Hf sd σ H Q sr h=>?_⟩
 refine qt H0 B Hf sd σ H _ sr (Po.bind h fun ds vs Hf1 H1 _ g1 rs h1=>?_)
 exact⟨Hf1,ds,g1.sub,by rw[List.append_nil];exact rs,PoC.bind h1⟩
end
end DL
set_option maxHeartbeats 4000000
set_option linter.all false
set_option maxRecDepth 100000
namespace DL
open PySem PySem.Spec PySem.Calls PySem.Builtin PySem.Builtin.ObjectAttr PyProof.Rows L2 PySem.W
def exMro:List Value:=[.type "ValueError", .type "Exception", .type "BaseException", .type "object"]
def exOnly:List Value->Bool
 |[]=>false
 |.ref _::r=>exOnly r
 |l=>l==exMro
theorem exOnly_cases:∀{l:List Value},exOnly l=true->l=exMro\/∃c r,l=.ref c::r/\exOnly r=true
 |.ref c::r,e=>.inr ⟨c,r,rfl,e⟩
 |.type _::_,e=>.inl (beq_iff_eq.mp e)
 |.none::_,e=>.inl (beq_iff_eq.mp e)
 |.bool _::_,e=>.inl (beq_iff_eq.mp e)
 |.int _ _::_,e=>.inl (beq_iff_eq.mp e)
 |.str _ _::_,e=>.inl (beq_iff_eq.mp e)
 |[],e=>nomatch e
 |v::r,e=>by
  cases v<;>first|exact .inr ⟨_,_,rfl,e⟩|exact .inl (beq_iff_eq.mp e)
theorem ex_pass (self:Value){l:List Value}(e:exOnly l=true):refuseLoop self "__setattr__" l=pure ():=by
 induction l with
 |nil=>cases e
 |cons v r ih =>
  rcases exOnly_cases e with q|⟨c,r',q,e'⟩
  ·rw[q];exact PySem.F.store_ValueError.passes self
  ·cases q
   rw[refuseLoop_ref]
   exact ih e'
theorem ex_has {T:Value}(hT:exMro.contains T=true){l:List Value}(e:exOnly l=true):l.contains T=true:=by
 induction l with
 |nil=>cases e
 |cons v r ih =>
  rcases exOnly_cases e with q|⟨c,r',q,e'⟩
  ·rw[q];exact hT
  ·cases q
   rw[List.contains_cons,ih e',Bool.or_true]
structure XCls (K:Frag) (C:Addr):Prop where
 sa:findIn K (.ref C) "__setattr__" = some (some (.builtin "object.__setattr__"))
 ga:findIn K (.ref C) "__getattribute__" = some (some (.builtin "BaseException.__getattribute__"))
 gn:findIn K (.ref C) "__getattr__" = some none
 hd:hasDictIn K C=true
 ov:(clsIn K C).any (fun cd=>exOnly cd.mro)=true
section
variable {prog:Program} {w:World} {A:Around} {s:Shared} {K:Frag} {x C:Addr} {name:Str} {v:Value} {R:Result->Shared->Prop}
theorem x_osa {ox:Obj}{od:Option Obj}{tk:Tok}(X:K.In s.heap)(I:PySem.W.InstAt s.heap x ox C od)(c:XCls K C)(ht:takerIn K C name=some none)(h:∀b,wpAny (model prog w) A.in1 (storeInOwnDict (.ref x) (.ref C) (.str name tk) name v b)
   (fun fin s'=>match fin with | .done f=>R (.ok f) s' | .again c'=>c'.quiet=true/\codeAny (model prog w) A c' R s') (fun e s'=>R (.error e) s') s) :
  codeAny (model prog w) A (.call (.builtin "object.__setattr__") ⟨[.ref x,.str name tk,v],[]⟩) R s:=by
 have SF:=PySem.F.store_object
 obtain⟨cd,hc,ho⟩:=any_some c.ov
 have ne:cd.mro.isEmpty=false:=by
  cases q:cd.mro with
  |nil=>rw[q] at ho;cases ho
  |cons _ _=>rfl
 have sub:Looks (model prog w) s.heap (isInstance (.ref x) (.type "object")) true :=
  I.type.andThen (looks_mroIn X (by unfold mroIn;rw[hc,Option.bind_some,if_neg (by rw[ne];decide),ex_has (by decide +kernel) ho]))
 refine codeAny_call_builtin SF.slot.plain SF.entry (@check_slot (model prog w) _ _ s "object.__setattr__" "object" "__setattr__" (.ref x) [.str name tk,v] [] _ SF.kind SF.split sub (SF.args (.ref x) (.str name tk) v) ?_)
 obtain⟨attr,ha,hr⟩:=Option.bind_eq_some_iff.mp ht
 have hm:Looks (model prog w) s.heap (mroOf (.ref C)) cd.mro:=(looks_clsIn X hc).andThen .now
 have tk3:Looks (model prog w) s.heap (storeTaker? attr) none:=by
  cases attr with
  |none=>exact .now
  |some a =>
   obtain⟨b,hb,q⟩:=Option.map_eq_some_iff.mp hr
   refine(looks_takesIn X hb).andThen ?_
   cases b with
   |true=>cases q
   |false=>exact .now
 rw[osa_eq,refuse_eq]
 refine wpAny_bind (wpAny_bind (I.type.here (wpAny_bind (hm.here ?_))))
 rw[ex_pass _ ho]
 exact wpAny_pure (wpAny_bind (I.type.here (wpAny_bind ((looks_findIn X ha).here (wpAny_bind (tk3.here (h _)))))))
theorem x_set0 {E:Value->Shared->Prop}{vs:Array Value}{sl:Array (Option Value)}{Q:Unit->Shared->Prop}(X:K.In s.heap)(c:XCls K C)(hx:s.heap.get? x=some ⟨.ref C,none,.fields vs,sl⟩)(ht:takerIn K C name=some none)(h:∀h',h'.get? x=some ⟨.ref C,some s.heap.objs.size,.fields vs,sl⟩->h'.Ns1 s.heap.objs.size (fun y=>if y=name then some v else none)->(∀b o,b≠x->s.heap.get? b=some o->h'.get? b=some o) ->
   Q () { s with heap:=h',toks:=s.toks+2 }):wpAny (model prog w) A (setAttr (.ref x) name v) Q E s:=by
 have I:PySem.W.InstAt s.heap x ⟨.ref C,none,.fields vs,sl⟩ C none:=⟨hx,rfl,rfl,True.intro⟩
 refine set_plain X I c.sa (x_osa (s:={ s with toks:=s.toks+1 }) X I c ht fun b=>?_)
 obtain⟨cd,hc,hd'⟩:=any_some c.hd
 refine wpAny_bind (wpAny_pure (wpAny_bind (wpAny_bind (wpAny_loadPart hx (wpAny_bind (Looks.here (s:={ s with toks:=s.toks+1 }) (looks_clsIn X hc) ?_))))))
 rw[hd']
 have nx:x<s.heap.objs.size:=Heap.lt_size hx
 have e1:(s.heap.push { cls:=.type "dict", data:=.dict #[] }).get? x=some ⟨.ref C,none,.fields vs,sl⟩:=Heap.get?_push_of_some _ hx
 refine wpAny_bind (wpAny_alloc (wpAny_bind (wpAny_update e1 ?_)))
 refine wpAny_pure (a:=some s.heap.objs.size) (wpAny_bind (wpAny_pure (wpAny_bind ?_)))
 have n0:(s.heap.push { cls:=.type "dict", data:=.dict #[] }).Ns s.heap.objs.size (fun _=>none):=⟨_,#[],_,Heap.get?_push_size s.heap rfl,rfl,(fun e he=>absurd he (by simp)),fun _=>rfl⟩
 have n1:((s.heap.push { cls:=.type "dict", data:=.dict #[] }).update x fun o=>{ o with dict:=some s.heap.objs.size }).Ns1 s.heap.objs.size (fun _=>none) :=
  (Heap.Ns1.of_empty n0).at fun o q=>(Heap.get?_update_other _ _ (Nat.ne_of_lt nx)).trans q
 refine wpAny_nsSet1 (s:={ s with heap:=(s.heap.push { cls:=.type "dict", data:=.dict #[] }).update x fun o=>{ o with dict:=some s.heap.objs.size },toks:=s.toks+1 }) n1 fun h' hn2 hs2=>?_
 obtain⟨oD,esD,epD,hoD,hdD,hcD⟩:=hn2.count (PySem.Within.cons name v (ns:=[]) (fun y hy=>absurd rfl hy))
 refine wpAny_bind (wpAny_lookBehind hoD (by rw[hdD];exact pastItsLine_dict (Nat.le_trans hcD (by rw[List.length_cons];simp))) ?_)
 refine wpAny_pure (h _ ?_ hn2 fun b o nb e=>?_)
 ·exact(hs2.2 x (Nat.ne_of_lt nx)).trans (Heap.get?_update_self _ e1 rfl)
 ·have hb:b<s.heap.objs.size:=Heap.lt_size e
  exact(hs2.2 b (Nat.ne_of_lt hb)).trans ((Heap.get?_update_other _ _ (Ne.symm nb)).trans (Heap.get?_push_of_some _ e))
end
end DL
set_option maxHeartbeats 4000000
set_option linter.all false
set_option maxRecDepth 100000
namespace DL
open PySem PySem.Spec PySem.Calls PySem.Builtin PySem.Builtin.ObjectAttr PyProof.Rows L2 PySem.W
theorem push_back {h:Heap}{o v:Obj}{b:Addr}(nb:b≠h.objs.size)(q:(h.push o).get? b=some v):h.get? b=some v:=by
 obtain⟨q1,q2⟩:=(Heap.get?_eq_some _ _ _).1 q
 refine(Heap.get?_eq_some _ _ _).2 ⟨?_,q2⟩
 have q3:(h.objs.push o)[b]?=some v:=q1
 rw[Array.getElem?_push,if_neg nb] at q3
 exact q3
def XN (a C:Addr)(dx:Option Addr):HO:=.ext fun h=>∃t sl,h.get? a=some ⟨.ref C,dx,.fields #[.ref t,.none,.none,.none,.bool false,.none],sl⟩
theorem xn_ok {P:Program}{w:World}{H:Hp}{h:Heap}{a C t:Addr}{dx:Option Addr}{sl:Array (Option Value)}(e:h.get? a=some ⟨.ref C,dx,.fields #[.ref t,.none,.none,.none,.bool false,.none],sl⟩):ObjOk P w H h a (XN a C dx) :=
 ⟨⟨t,sl,e⟩,⟨_,e⟩,fun _ _ ⟨t',sl',e1⟩ k=>⟨t',sl',k _ e1⟩⟩
theorem xn_get {P:Program}{w:World}{H:Hp}{h:Heap}{a C:Addr}{dx:Option Addr}(hk:HOk P w H h)(e:H a=some (XN a C dx)):∃t sl,h.get? a=some ⟨.ref C,dx,.fields #[.ref t,.none,.none,.none,.bool false,.none],sl⟩:=(hk a _ e).1
section
variable {X:Cx} {pins:List (Addr×Obj)} {σ:L2.St} {H:Hp} {s:Shared} {a C:Addr} {f:Str} {y:V} {u:Value} {A:Around} {E:Value->Shared->Prop}
theorem xset_ok {Q:Unit->Shared->Prop}(I:Inv X pins σ H s)(e:H a=some (XN a C none))(c:XCls X.K C)(n:NoAttr X.K C f)(ry:RelV y u)(h:∀dx s',H dx=none->dx≠a->Inv X pins σ (upd (upd H dx (.xd [(f,y)])) a (XN a C (some dx))) s'->Q () s'):wpAny (model X.prog X.w) A (setAttr (.ref a) f u) Q E s:=by
 obtain⟨t,sl,ea⟩:=xn_get I.hok e
 have la:a<s.heap.objs.size:=Heap.lt_size ea
 have hf:=I.hok.fresh (Nat.le_refl s.heap.objs.size)
 refine x_set0 I.kIn c ea n.taker fun h' e1 e2 e3=>h s.heap.objs.size _ hf (Nat.ne_of_gt la) ?_
 obtain⟨od,es,ep,g1,g2⟩:=e2
 have I1:Inv X pins σ (upd H s.heap.objs.size (.xd [(f,y)])) { s with heap:=s.heap.push od,toks:=s.toks } :=
  I.laid (fun b v q=>Heap.get?_push_of_some _ q) (Nat.le_refl _) ⟨_,⟨od,es,ep,Heap.get?_push_size _ (by
   have:=g2.1
   obtain⟨c1,c2,c3,c4⟩:=od
   cases this
   rfl),g2⟩,fun g=>by
   show RelO (List.lookup g [(f,y)]) (if g=f then some u else none)
   by_cases q:g=f
   ·subst q
    simp only[List.lookup,beq_self_eq_true,if_pos]
    exact ry
   ·have hb:(g==f)=false:=beq_eq_false_iff_ne.mpr q
    simp only[List.lookup,hb,if_neg q]
    trivial⟩
 refine I1.write (x:=a) (e:=a) (h':=h') (t':=s.toks+2) (by rw[Zn (Nat.ne_of_lt la),e];exact True.intro) (.inl rfl) (fun b v nb q=>?_) ⟨_,e1⟩ (xn_ok e1)
 by_cases hb:b=s.heap.objs.size
 ·subst hb
  rw[Heap.get?_push_size _ (by
   have:=g2.1
   obtain⟨c1,c2,c3,c4⟩:=od
   cases this
   rfl)] at q
  cases q
  exact g1
 ·exact e3 b v nb (push_back hb q)
end
section
variable {X:Cx} {o value:Expr} {ta tv:TE} {f:Str} {pos pos':Pos}
def sX0 (K:Frag)(ta tv:TE)(f:Str):TS:=fun D σ H=>tv σ H fun y H1=>ta σ H1 fun x H2=>∃a C,x=.ref a/\H2 a=some (XN a C none)/\XCls K C/\NoAttr K C f /\
 ∀dx,H2 dx=none->dx≠a->D.nx σ (upd (upd H2 dx (.xd [(f,y)])) a (XN a C (some dx)))
theorem ps_x0 (ha:PE X o ta)(hv:PE X value tv)(hs:swapsWith value (some (.Attribute o f pos')) pos.line X.env=pure false:=by rfl):PS X (.Assign [.Attribute o f pos'] value pos) (sX0 X.K ta tv f):=by
 intro pins s σ H D I h
 refine plainObj_wpAny_Assign_Attribute (thn (hv pins s σ H _ I h) fun u s1 ⟨y,H1,I1,ry,q⟩=>thn (ha pins s1 σ H1 _ I1 q) fun ov s2 ⟨x,H2,I2,rx,a,C,ex,ea,c,n,q2⟩=>?_) hs
 subst ex
 obtain rfl:ov=Value.ref a:=rx
 exact xset_ok I2 ea c n ry fun dx s3 z1 z2 I3=>⟨σ,_,I3,q2 dx z1 z2⟩
end
def spI (C:Addr)(f:Str):Sp:=fun vs H Q _=>∃a y,vs=[.ref a,y]/\H a=some (XN a C none)/\∀dx,H dx=none->dx≠a->Q .non (upd (upd H dx (.xd [(f,y)])) a (XN a C (some dx)))
theorem fn_init {P:Program}{w:World}{K:Frag}{mg:Str->Option Value}{base:Heap}{x qual self p f:Str}{st:Stmt}{g C:Addr}{fd:FuncData}{p1 p2 p3 p4:Pos}(F:Fun K x qual st g fd)(sc:FnScope [self,p] [self,p] (Zh st))(hb:Zz st=[.Assign [.Attribute (.Name self p1) f p2] (.Name p p3) p4])(c:XCls K C)(n:NoAttr K C f)(v1:Vis (Zh st) self)(v2:Vis (Zh st) p) (d1:(self==("__debug__" : Str))=false:=by decide) (d2:(p==("__debug__" : Str))=false:=by decide)
  (d3:(self==("__classdict__" : Str))=false:=by decide) (d4:(p==("__classdict__" : Str))=false:=by decide):FnOk P w K mg base CX0 1 g fd [self,p] (spI C f):=by
 refine F.ok sc (fun vs H Q E h=>?_) (fun cdv A outer s H vs Q E hr h=>?_)
 ·obtain⟨a,y,rfl,_⟩:=h
  rfl
 ·obtain⟨a,y,rfl,h1,h2⟩:=h
  rw[hb]
  refine⟨_,pss_one (ps_x0 (Ym (i:=0) rfl v1 d1 d3) (Ym (i:=1) rfl v2 d2 d4)),?_⟩
  exact⟨y,rfl,.ref a,rfl,a,C,rfl,h1,c,n,h2⟩
end DL
set_option maxHeartbeats 4000000
set_option linter.all false
set_option maxRecDepth 100000
namespace DL
open PySem PySem.Spec PySem.Calls PySem.Builtin PySem.Builtin.ObjectAttr PyProof.Rows L2 PySem.W
def exInit (K:Frag)(C fI:Addr):Bool:=match K.lookup C with
 |some ⟨.type "type", _,.cls cd,sl⟩=>(match cd.mro,sl.toList with
  |.ref C'::bm,[_,_,_,_,some (.builtin n),_]=>C'==C&&n == "ValueError.__new__" && !cd.hasDel&&tailIn K exMro bm&&nsOkIn K cd.ns&&nsIn K cd.ns "__init__" == some (some (.ref fI))
  |_,_=>false)
 |_=>false
theorem nsMap_some_of {K:Frag}{h:Heap}{N:Addr}{mg:Str->Option Value}{n:Str}{v:Value}(X:K.In h)(G:h.Ns N mg)(e:nsIn K N n=some (some v)):mg n=some v:=by
 obtain⟨o,es,ep,ho,hd,_,hf⟩:=G
 unfold nsIn at e
 split at e
 ·rename_i c d es' n' sl q
  have:=X _ _ q
  rw[ho] at this
  cases this
  cases hd
  split at e
  ·rename_i en he
   cases e
   rw[<-hf]
   unfold nsFind findBy
   rw[<-Array.find?_toList,he]
   rfl
  ·split at e<;>cases e
 ·cases e
structure XC (K:Frag) (C fI:Addr):Prop where
 at_:∃bm N nm qn bs hdct sn sub ab col dd k0 k1 k2 k3 k5,∀h:Heap,K.In h->h.get? C=some (excClassObj nm qn C N bs bm hdct sn sub ab col dd k0 k1 k2 k3 k5 "ValueError.__new__")/\OwnTail h exMro bm /\
  ∃mN,h.Ns N mN/\mN "__init__" = some (.ref fI)
theorem xc_of {K:Frag}{C fI:Addr}(q:exInit K C fI=true):XC K C fI:=by
 unfold exInit at q
 split at q
 ·rename_i dd cd sl ho
  split at q
  ·rename_i C' bm k0 k1 k2 k3 n k5 hm hs
   simp only[Bool.and_eq_true,beq_iff_eq,Bool.not_eq_true'] at q
   obtain⟨⟨⟨⟨⟨rfl,rfl⟩,hdel⟩,ht⟩,hok⟩,hni⟩:=q
   obtain⟨nm,bs,mro,ns,qn,hd,sn,sub,ab,col,del⟩:=cd
   dsimp only at hm hdel hok hni
   subst hm hdel
   have hsl:sl=#[k0,k1,k2,k3,some (.builtin "ValueError.__new__"),k5]:=by
    obtain⟨l⟩:=sl
    simp only at hs
    rw[hs]
   subst hsl
   exact⟨bm,ns,nm,qn,bs,hd,sn,sub,ab,col,dd,k0,k1,k2,k3,k5,fun h X=>⟨X _ _ ho,tail_of_in X ht,_,.of_isNs (isNs_of_in X hok),nsMap_some_of X (.of_isNs (isNs_of_in X hok)) hni⟩⟩
  ·cases q
 ·cases q
section
variable {prog:Program} {w:World} {A:Around} {E:Value->Shared->Prop} {h:Heap} {g:Array GenState} {d:Drawn} {t:Nat} {os:OsState}
variable {nm q:Str} {C N:Addr} {bs bm bmB:List Value} {hdct:Bool} {sn:List Str} {sub:List Value} {ab:Bool} {col:Option Bool} {dd:Option Addr} {k0 k1 k2 k3 k5:Option Value} {B newId initId:String}
abbrev tupO (rest:List Value):Obj:={ cls:=.type "tuple", data:=.seq rest.toArray }
abbrev excO (C t:Addr):Obj:={ cls:=.ref C,data:=.fields #[.ref t,.none,.none,.none,.bool false,.none] }
theorem x_type_call (FB:ExcBaseFacts B newId initId bmB)(T:OwnTail h bmB bm){mN:Str->Option Value}{rest:List Value}{fI:Addr}{oI:Obj}{Q:Fin->Shared->Prop}(hC:h.get? C=some (excClassObj nm q C N bs bm hdct sn sub ab col dd k0 k1 k2 k3 k5 newId))(hN:h.Ns N mN) (hI:mN "__init__" = some (.ref fI)) (ho:h.get? fI=some oI) (hf:oI.cls=.type "function")
  (k:wpAny (model prog w) A (call (.ref fI) (.ref (h.objs.size+1)::rest)) (fun r s'=>r=.none/\Q (.done (.ret (.ref (h.objs.size+1)))) s') E ⟨(h.push (tupO rest)).push (excO C h.objs.size),g,d,t,os⟩) (hz:rest.length<=sizeLine) :
  wpAny (model prog w) A (Builtin.«type.__call__» ⟨.ref C::rest,[]⟩) Q E ⟨h,g,d,t,os⟩:=by
 repeat (first|with_reducible refine wpAny_loadPart_at hC ?_|with_reducible refine wpAny_madeBy_exc hC ?_|wp_step)
 refine codeAny_call_builtin_code (Code.quiet_builtin _ FB.quiet) (wpAny_check_new_subT FB T hC ?_)
 refine codeAny_exc_new_subT FB T hC ?_ hz
 show wpAny _ _ _ _ _ _
 have up:∀{b:Addr} {o:Obj},h.get? b=some o->((h.push (tupO rest)).push (excO C h.objs.size)).get? b=some o:=fun e=>Heap.get?_push_of_some _ (Heap.get?_push_of_some _ e)
 have c1:=up hC
 have f1:=up ho
 have n1:((h.push (tupO rest)).push (excO C h.objs.size)).Ns N mN:=let ⟨o,es,ep,e,r⟩:=hN;⟨o,es,ep,up e,r⟩
 have x1:((h.push (tupO rest)).push (excO C h.objs.size)).get? (h.objs.size+1)=some (excO C h.objs.size):=by heap_get
 have cC:(Value.ref C::bm).contains (.ref C)=true:=by simp
 have t1:=T.keeps (h':=(h.push (tupO rest)).push (excO C h.objs.size)) fun b o e=>up e
 unfold isInstance
 repeat (first|with_reducible refine wpAny_loadPart_at x1 ?_|(with_reducible refine wpAny_isSubtype_exc c1 ?_;rw[cC])|wp_step)
 show wpAny _ _ (typeLookup (.ref C) _) _ _ _
 refine wpAny_typeLookup_tail c1 n1 t1 FB.mroIs FB.init.lookup ?_
 rw[hI]
 refine wpAny_holding (wpAny_bind ?_)
 unfold bindSpecial
 refine wpAny_bind (wpAny_typeOf (T := "function") ⟨_,f1,hf⟩ ?_)
 rw[if_pos (by decide)]
 refine wpAny_pure (wpAny_bind (wpAny_mono k (fun r s' hr=>?_) fun _ _ x=>x))
 obtain⟨rfl,hQ⟩:=hr
 wp_walk
 exact hQ
theorem x_call (FB:ExcBaseFacts B newId initId bmB)(T:OwnTail h bmB bm){mN:Str->Option Value}{rest:List Value}{fI:Addr}{oI:Obj}{Q:Value->Shared->Prop}(hC:h.get? C=some (excClassObj nm q C N bs bm hdct sn sub ab col dd k0 k1 k2 k3 k5 newId))(hN:h.Ns N mN) (hI:mN "__init__" = some (.ref fI)) (ho:h.get? fI=some oI) (hf:oI.cls=.type "function")
  (k:wpAny (model prog w) (A.under (.builtin "type.__call__" ⟨.ref C::rest,[]⟩)) (call (.ref fI) (.ref (h.objs.size+1)::rest)) (fun r s'=>r=.none/\Q (.ref (h.objs.size+1)) s') E ⟨(h.push (tupO rest)).push (excO C h.objs.size),g,d,t,os⟩) (hz:rest.length<=sizeLine) :
  wpAny (model prog w) A (call (.ref C) rest) Q E ⟨h,g,d,t,os⟩:=by
 have a1:=tc_lookup
 have a2:=tc_bind (.ref C)
 have a3:(⟨h,g,d,t,os⟩:Shared).TypeIs (.ref C) "type" := ⟨_,hC,rfl⟩
 refine wpAny_call (codeAny_of_tree ?_)
 show wpAny _ _ (callAny (.ref C) _) _ _ _
 repeat (any_goals (first|assumption|with_reducible refine wpAny_loadPart_at hC ?_|wp_step))
 refine⟨rfl,?_⟩
 exact codeAny_call_builtin_at (Code.quiet_builtin _ (by decide +kernel)) entry_typeCall (wpAny_check_type_call_sub hC (x_type_call FB T hC hN hI ho hf k hz))
end
section
variable {X:Cx} {k:Nat} {fI C:Addr} {fd:FuncData} {self p f x:Str} {np pos cpos:Pos} {e:Expr} {es:List Expr} {t:TA}
theorem run_x {pins:List (Addr×Obj)}{σ:L2.St}{H:Hp}{s:Shared}{Q:VK}{us:List Value}{v:V}(xc:XC X.K C fI)(fn:isFn X.K (.ref fI)=true)(F:FnOk X.prog X.w X.K X.mg X.base CX0 k fI fd [self,p] (spI C f))(hr:Room (k+1) X.A)(hb:Binds X.K fd [self,p] [])(I:Inv X pins σ H s)(r:Vals [v] us)(q:∀a dx,s.heap.objs.size<=a->H a=none->H dx=none->dx≠a->Q (.ref a) (upd (upd H dx (.xd [(f,v)])) a (XN a C (some dx)))) :
  wpAny (model X.prog X.w) X.A (call (.ref C) us) (EP X pins σ Q) X.xe s:=by
 obtain⟨bm,N,nm,qn,bs,hdct,sn,sub,ab,col,dd,k0,k1,k2,k3,k5,all⟩:=xc.at_
 obtain⟨hC,T,mN,hN,hI⟩:=all s.heap I.kIn
 have hfn:typeIn X.K (.ref fI)=some (.type "function"):=beq_iff_eq.mp fn
 obtain⟨oI,hoI,hcI⟩:=Option.map_eq_some_iff.mp hfn
 have lu:us.length=1:=r.length.symm
 obtain⟨hh,g,d,tk,os⟩:=s
 refine x_call PySem.F.excBase_ValueError T hC hN hI (I.kIn _ _ hoI) hcI ?_ (by rw[lu];decide)
 have I0:Inv X pins σ H ⟨hh.push (tupO us),g,d,tk,os⟩:=I.kept (h':=hh.push (tupO us)) (t':=tk) fun b u e=>Heap.get?_push_of_some _ e
 have sz:(hh.push (tupO us)).objs.size=hh.objs.size+1:=Heap.size_push _ _
 have ex:((hh.push (tupO us)).push (excO C hh.objs.size)).get? (hh.objs.size+1)=some (excO C hh.objs.size):=by
  rw[<-sz];exact Heap.get?_push_size _ rfl
 have I1:Inv X pins σ (upd H (hh.objs.size+1) (XN (hh.objs.size+1) C none)) ⟨(hh.push (tupO us)).push (excO C hh.objs.size),g,d,tk,os⟩ :=
  I0.laid (a:=hh.objs.size+1) (h':=(hh.push (tupO us)).push (excO C hh.objs.size)) (t':=tk) (fun b u e=>Heap.get?_push_of_some _ e) (Nat.le_of_eq sz) (xn_ok ex)
 have r2:Vals [V.ref (hh.objs.size+1),v] (Value.ref (hh.objs.size+1)::us):=.cons rfl r
 have hl:((Value.ref (hh.objs.size+1)::us)++[]).length=[self,p].length:=by simp[lu]
 have fa:H (hh.objs.size+1)=none:=I.hok.fresh (Nat.le_succ _)
 have sp:spI C f [V.ref (hh.objs.size+1),v] (upd H (hh.objs.size+1) (XN (hh.objs.size+1) C none)) (fun v2 H2=>v2=.non/\Q (.ref (hh.objs.size+1)) H2) E0:=by
  refine⟨_,v,rfl,Zo,fun dx z1 z2=>⟨rfl,?_⟩⟩
  have h1:H dx=none:=by rw[Zn z2] at z1;exact z1
  have e2:upd (upd (upd H (hh.objs.size+1) (XN (hh.objs.size+1) C none)) dx (.xd [(f,v)])) (hh.objs.size+1) (XN (hh.objs.size+1) C (some dx))=upd (upd H dx (.xd [(f,v)])) (hh.objs.size+1) (XN (hh.objs.size+1) C (some dx)):=by
   funext b
   unfold upd
   by_cases b1:b=hh.objs.size+1
   ·simp only[if_pos b1]
   ·by_cases b2:b=dx
    ·simp only[if_neg b1,if_pos b2]
    ·simp only[if_neg b1,if_neg b2]
  rw[e2]
  exact q _ dx (Nat.le_succ _) fa h1 z2
 have bnd:=hb ⟨(hh.push (tupO us)).push (excO C hh.objs.size),g,d,tk,os⟩ (Value.ref (hh.objs.size+1)::us) I1.kIn hl
 rw[List.append_nil] at bnd
 refine wpAny_call (codeAny_mono (F.run _ X.stack _ _ ⟨Value.ref (hh.objs.size+1)::us,[]⟩ (Value.ref (hh.objs.size+1)::us) _ _ E0 (hr.make C us []) (I1.env0.make C us []) bnd r2 sp) fun rr s' hq'=>?_)
 cases rr with
 |error e=>exact False.elim hq'
 |ok fl =>
  cases fl with
  |ret u =>
   obtain⟨v2,H',I3,rv,ev,q3⟩:=I1.after hq'
   subst ev
   exact⟨rv,⟨V.ref (hh.objs.size+1),H',I3,rfl,q3⟩⟩
  |next=>exact False.elim hq'
  |brk=>exact False.elim hq'
  |cont=>exact False.elim hq'
end
end DL
set_option maxHeartbeats 4000000
set_option linter.all false
set_option maxRecDepth 100000
namespace DL
open PySem PySem.Spec PySem.Calls PySem.Builtin PySem.Builtin.ObjectAttr PyProof.Rows L2 PySem.W
theorem forget_ext {X:Cx}{pins:List (Addr×Obj)}{σ:L2.St}{H:Hp}{s:Shared}{a:Addr}{φ:Heap->Prop}(I:Inv X pins σ (upd H a (.ext φ)) s)(ha:H a=none)(h0:X.s₀.heap.objs.size<=a):Inv X pins σ H s:=by
 have dn:∀b o,H b=some o->upd H a (.ext φ) b=some o:=fun b o q=>by rw[Zn (Zy q ha)];exact q
 have up:∀b o,upd H a (.ext φ) b=some o->(∀ψ,o≠.ext ψ)->H b=some o:=fun b o q n=>by
  by_cases hb:b=a
  ·subst hb;rw[Zo] at q;cases q;exact absurd rfl (n φ)
  ·rwa[Zn hb] at q
 have nn:∀b,upd H a (.ext φ) b=none->H b=none:=fun b q=>by
  by_cases hb:b=a
  ·subst hb;exact ha
  ·rwa[Zn hb] at q
 have B:=I.base
 refine⟨I.ok,I.os,I.bare,⟨B.keep,B.slot,fun b o e n nx=>nn b (B.free b o e n nx),B.there,fun b xs e=>up b _ (B.tups b xs e) (fun _ q=>nomatch q),fun b o u e=>up b _ (B.frzs b o u e) (fun _ q=>nomatch q),fun b ps e=>?_⟩,I.loc,I.cell,nn _ I.free,fun y c e=>nn _ (I.freeC y c e),fun q hq=>?_,fun b o e=>?_,I.len⟩
 ·obtain⟨m,q⟩:=B.tbls b ps e
  exact⟨m,up b _ q (fun _ q=>nomatch q)⟩
 ·obtain⟨p1,p2,p3⟩:=I.pin q hq
  exact⟨p1,nn _ p2,p3⟩
 ·exact(I.hok b o (dn b o e)).stay (fun _ _ _ q=>q) (fun c q=>up c _ q (fun _ z=>nomatch z)) fun c xs q=>up c _ q (fun _ z=>nomatch z)
section
variable {M:Model} {A:Around} {E:Value->Shared->Prop} {s:Shared} {env:Env}
theorem x_raise {K:Frag}{C fI:Addr}{x:Sem Value}{Q:Flow->Shared->Prop}(xc:XC K C fI)(hh:A.handled=none)(h:wpAny M A x (fun v s₁=>∃a dx t sl,v=.ref a/\K.In s₁.heap/\s₁.heap.get? a=some ⟨.ref C,dx,.fields #[.ref t,.none,.none,.none,.bool false,.none],sl⟩/\E (.ref a) s₁) E s) :
  wpAny M A (raiseStmt env (some x) none) Q E s:=by
 obtain⟨bm,N,nm,qn,bs,hdct,sn,sub,ab,col,dd,k0,k1,k2,k3,k5,all⟩:=xc.at_
 unfold raiseStmt
 refine wpAny_bind (wpAny_mono h (fun v s₁ h₁=>?_) fun _ _ z=>z)
 obtain⟨a,dx,t,sl,rfl,KI,he,hE⟩:=h₁
 obtain⟨hC,T,_⟩:=all _ KI
 obtain⟨hp,g,d,tk,os⟩:=s₁
 have hB:(Value.ref C::bm).contains (.type "BaseException")=true:=by
  rw[List.contains_cons,T.hasType (show exMro.contains (.type "BaseException")=true by decide +kernel),Bool.or_true]
 repeat (first|with_reducible refine wpAny_loadPart_at he ?_|with_reducible refine wpAny_loadPart_at hC ?_|(with_reducible refine wpAny_isSubtype_exc hC ?_;rw[hB])|wp_step)
 exact wpAny_raiseNew_none hh hE
end
section
variable {X:Cx} {E:XK} {k:Nat} {fI C:Addr} {fd:FuncData} {self p f x:Str} {np pos cpos:Pos} {e:Expr} {es:List Expr} {t:TA}
def tRaise (C:Addr)(f:Str)(E:XK)(t:TA):TS:=fun _ σ H=>t σ H fun vs H1=>∃v,vs=[v]/\∀dx,H1 dx=none->E (.ref C) (some dx) (upd H1 dx (.xd [(f,v)]))
theorem ps_raise (o:Out X E)(hc:X.calm=true)(xc:XC X.K C fI)(kp:keepIn X.K (.ref C)=true)(fn:isFn X.K (.ref fI)=true)(F:FnOk X.prog X.w X.K X.mg X.base CX0 k fI fd [self,p] (spI C f))(hr:Room (k+1) X.A)(hb:Binds X.K fd [self,p] [])(hg:Gl X x)(hm:X.mg x=some (.ref C))(ha:PA X (e::es) t) (hdb:(x==("__debug__" : Str))=false:=by decide)
  (he:starEach (e::es) X.env=(false,eval e X.env)::starEach es X.env:=by rfl) (hpl:(backTo cpos (starEach es X.env)).any (·.1)=false:=by rfl) :
  PS X (.Raise (some (.Call (.Name x np) (e::es) [] cpos)) none pos) (tRaise C f E t):=by
 intro pins s σ H D I h
 rw[arm_exec_Raise]
 refine wpAny_bind (wpAny_standAt ?_)
 refine x_raise xc (I.ok.hd hc) ?_
 have core:wpAny (model X.prog X.w) X.A (eval (.Call (.Name x np) (e::es) [] cpos) X.env) (fun v s₁=>∃a dx t sl,v=.ref a/\X.K.In s₁.heap/\s₁.heap.get? a=some ⟨.ref C,dx,.fields #[.ref t,.none,.none,.none,.bool false,.none],sl⟩/\X.xe (.ref a) s₁) X.xe s:=by
  refine wpAny_Call_Name_kw (ld_glob I hg hm ?_ hdb)
  refine PySem.W.callWith_K (h₀:=X.base) I.ok.mod.kin kp (thn (ha cpos pins s σ H _ I h) fun us s1 ⟨vs,H1,I1,r,v,ev,q⟩=>⟨I1.kIn,?_⟩) he hpl
  subst ev
  refine thn (run_x (Q:=fun v2 H2=>∃a dx,v2=.ref a/\X.s₀.heap.objs.size<=a/\H1 a=none/\H1 dx=none/\dx≠a/\H2=upd (upd H1 dx (.xd [(f,v)])) a (XN a C (some dx))) xc fn F hr hb I1 r fun a dx z1 z2 z3 z4=>⟨a,dx,rfl,Nat.le_trans I1.sz z1,z2,z3,z4,rfl⟩) fun u s2 h2=>?_
  obtain⟨v2,H2,I2,r2,a,dx,rfl,z1,z2,z3,z4,rfl⟩:=h2
  obtain rfl:u=Value.ref a:=r2
  obtain⟨t',sl,e2⟩:=xn_get I2.hok (Zo)
  have na:upd H1 dx (.xd [(f,v)]) a=none:=by rw[Zn (Ne.symm z4)];exact z2
  have I3:Inv X pins σ (upd H1 dx (.xd [(f,v)])) s2:=forget_ext I2 na z1
  exact⟨a,some dx,t',sl,rfl,I3.kIn,e2,o pins σ _ s2 a (.ref C) (some dx) a I3 ⟨_,_,e2,rfl,rfl,rfl,by simp,.inl ⟨rfl,rfl⟩⟩ na na z1 z1 (q dx z3)⟩
 exact wpAny_bind (wpAny_mono core (fun v s₁ h₁=>wpAny_bind (wpAny_standAt (wpAny_pure h₁))) fun _ _ z=>z)
def sRaise (cls f:Str)(fs:DSt->M (List D))(sd:DSt):M O:=(fs sd).bind fun ds=>match ds with
 |[d]=>.ex ⟨cls,[f],[d]⟩
 |_=>.bad
theorem psd_raise (o:Out X E)(hc:X.calm=true)(xc:XC X.K C fI)(kp:keepIn X.K (.ref C)=true)(fn:isFn X.K (.ref fI)=true)(F:FnOk X.prog X.w X.K X.mg X.base CX0 k fI fd [self,p] (spI C f))(hr:Room (k+1) X.A)(hb:Binds X.K fd [self,p] [])(hm:X.mg x=some (.ref C))(hn:nsIn X.K mainGlobals x=some (some (.ref C))){fs:DSt->M (List D)}(ha:PAd X E (e::es) fs)(hg:Gl X x:=by rfl) (hdb:(x==("__debug__" : Str))=false:=by decide)
  (he:starEach (e::es) X.env=(false,eval e X.env)::starEach es X.env:=by rfl) (hpl:(backTo cpos (starEach es X.env)).any (·.1)=false:=by rfl) :
  PSd X E (.Raise (some (.Call (.Name x np) (e::es) [] cpos)) none pos) (sRaise x f fs):=by
 obtain⟨t,pt,qt⟩:=ha
 refine⟨_,ps_raise o hc xc kp fn F hr hb hg hm pt hdb he hpl,fun H0 B Hf sd σ H D sr h=>?_⟩
 refine qt H0 B Hf sd σ H _ sr (PoS.bind sr h fun ds vs Hf1 H1 _ g1 sr1 rs h1=>?_)
 match ds,rs,h1 with
 |[d],rs,h1 =>
  obtain⟨v,r,rfl,rv,rn⟩:=reps_cons.mp rs
  rw[reps_nil] at rn
  subst rn
  refine⟨v,rfl,fun dx z=>?_⟩
  have sm:=Z4 (sr1.sub.free z) (.xd [(f,v)])
  refine h1 (.ref C) (some dx) (upd Hf1 dx (.xd [(f,v)])) _ sm ⟨sr1.sub.upd dx _,sr1.all.trans (Z4 z _),fun a hB=>?_⟩ ⟨C,[v],rfl,hn,⟨Zo,rfl⟩,Reps.cons (rv.mono sm) Reps.nil⟩
  have:a≠dx:=fun q=>by
   have:=sr1.all.ne (sr1.bt a hB)
   rw[q] at this
   exact this z
  rw[Zn this];exact sr1.ban a hB
 |[],_,h1=>exact h1.elim
 |_::_::_,_,h1=>exact h1.elim
end
end DL
set_option maxHeartbeats 4000000
set_option linter.all false
set_option maxRecDepth 100000
namespace DL
open PySem PySem.Spec PySem.Calls PySem.Builtin PySem.Builtin.ObjectAttr PyProof.Rows L2 PySem.W
section
variable {X:Cx} {pins:List (Addr×Obj)} {σ:L2.St} {H:Hp} {s:Shared} {h':Heap} {a T C:Addr} {e:Value}
structure Fresh (X:Cx) (pins:List (Addr×Obj)) (b:Addr):Prop where
 lo:X.s₀.heap.objs.size<=b
 nl:b≠X.env.locals
 nc:∀x c,X.env.cells.lookup x=some c->c≠b
 np:∀p∈X.pn++pins,p.1≠b
theorem fresh_of (I:Inv X pins σ H s){b:Addr}(h:s.heap.objs.size<=b):Fresh X pins b where
 lo:=Nat.le_trans I.sz h
 nl:=Nat.ne_of_gt (Nat.lt_of_lt_of_le I.lt h)
 nc:=fun x c q=>by
  obtain⟨v,o,ho,_⟩:=I.cell x c q
  exact Nat.ne_of_lt (Nat.lt_of_lt_of_le (Heap.lt_size ho) h)
 np:=fun p hp=>Nat.ne_of_lt (Nat.lt_of_lt_of_le (Heap.lt_size (I.pin p hp).1) h)
theorem inv_ch (I:Inv X pins σ H s)(c:Ch (frs X.stack) a T s.heap h')(na:H a=none)(nT:H T=none)(fa:Fresh X pins a)(fT:Fresh X pins T):Inv X pins σ H { s with heap:=h' }:=by
 refine I.call (h':=h') (g':=s.gens) (d':=s.drawn) (t':=s.toks) (ch:=[a,T]) ⟨fun b o q n nf nx=>?_,fun b o q n bf nx=>?_,fun b o q n nx=>n,fun b o q nx=>?_,fun b xs q=>q,fun b o u q=>q,fun b ps q=>⟨#[],by rw[q];simp⟩⟩ (hok_ch I.hok c na nT I.stkFree) I.bare fun b hb=>?_
 ·exact c.keep b o (fun z=>nx (by simp[z])) (fun z=>nx (by simp[z])) nf q
 ·exact c.slot b o (fun z=>nx (by simp[z])) (fun z=>nx (by simp[z])) q
 ·obtain⟨sl,z⟩:=c.slot b o (fun z=>nx (by simp[z])) (fun z=>nx (by simp[z])) q
  exact⟨_,z⟩
 ·rcases List.mem_cons.mp hb with rfl|hb
  ·exact⟨.inr fa.lo,fa.nl,fa.nc,fa.np⟩
  ·have:b=T:=by simpa using hb
   subst this
   exact⟨.inr fT.lo,fT.nl,fT.nc,fT.np⟩
theorem inv_track {o:HO}(I:Inv X pins σ H s)(na:H a=none)(fa:Fresh X pins a)(ok:ObjOk X.prog X.w (upd H a o) s.heap a o):Inv X pins σ (upd H a o) s:=by
 have B:=I.base
 have nn:∀b,b≠a->H b=none->upd H a o b=none:=fun b nb q=>by rw[Zn nb];exact q
 have lt:∀{b:Addr} {u:Obj},X.s₀.heap.get? b=some u->b≠a:=fun q=>Nat.ne_of_lt (Nat.lt_of_lt_of_le (Heap.lt_size q) fa.lo)
 have sm:=Z4 na o
 refine⟨I.ok,I.os,I.bare,⟨B.keep,B.slot,fun b u q n nx=>nn b (lt q) (B.free b u q n nx),B.there,fun b xs q=>sm _ _ (B.tups b xs q),fun b u v q=>sm _ _ (B.frzs b u v q),fun b ps q=>?_⟩,I.loc,I.cell,nn _ (Ne.symm fa.nl) I.free,fun y c q=>nn _ (fa.nc y c q) (I.freeC y c q),fun q hq=>?_,fun b u q=>?_,I.len⟩
 ·obtain⟨m,z⟩:=B.tbls b ps q
  exact⟨m,sm _ _ z⟩
 ·obtain⟨p1,p2,p3⟩:=I.pin q hq
  exact⟨p1,nn _ (fa.np q hq) p2,p3⟩
 ·by_cases hb:b=a
  ·subst hb;rw[Zo] at q;cases q;exact ok
  ·rw[Zn hb] at q
   exact(I.hok b u q).stay (fun _ _ _ z=>z) (fun c z=>sm _ _ z) fun c xs z=>sm _ _ z
def sui (X:Cx)(e:Value):Cx:={ X with A:=X.A.mark (some e),calm:=false,xe:=fun _ _=>False }
theorem ok_sui (ok:X.Ok):(sui X e).Ok :=
 ⟨ok.mod,ok.kind,ok.glob,ok.blt,ok.above,ok.inj,ok.has,ok.cab,(fun z=>nomatch z),ok.frames,ok.stk,ok.exf,ok.bs,ok.bsz,ok.noex,ok.exfs,ok.funs,ok.frf⟩
theorem inv_sui (I:Inv X pins σ H s):Inv (sui X e) pins σ H s:=⟨ok_sui I.ok,I.os,I.bare,I.base,I.loc,I.cell,I.free,I.freeC,I.pin,I.hok,I.len⟩
theorem inv_back (ok:X.Ok)(I:Inv (sui X e) pins σ H s):Inv X pins σ H s:=⟨ok,I.os,I.bare,I.base,I.loc,I.cell,I.free,I.freeC,I.pin,I.hok,I.len⟩
theorem name_drop {M:Model}{A:Around}{E:Value->Shared->Prop}{n:Str}{i:Nat}{pos:Pos}{Q:Unit->Shared->Prop}(I:Inv X pins σ H s)(hN:X.N.Nodup)(hi:X.N[i]?=some n)(hk:X.env.kindOf n=some .local)(h:∀s',Inv X pins (σ.set i none) H s'->Q () s'):wpAny M A (do bindName X.env n .none;unbindBehindTheSuite X.env n pos) Q E s:=by
 obtain⟨m,hn,hl⟩:=id I.loc
 have hcls:(X.env.scope.kind==.class||(X.env.scope.kind==.module&&X.env.locals != X.env.globals))=false:=by rw[I.ok.kind];rfl
 refine wpAny_nameGoes_keeps hk hn hcls fun h' v hn' hs=>h _ ?_
 have nb:∀{b:Addr} {o:Obj},X.s₀.heap.get? b=some o->b≠X.env.locals:=fun q=>Nat.ne_of_lt (Nat.lt_of_lt_of_le (Heap.lt_size q) I.ok.above)
 have cne:=I.cne
 refine⟨I.ok,I.os,I.bare,⟨fun b o q n nf nx=>(hs.2 b (nb q)).trans (I.base.keep b o q n nf nx),fun b o q n bf nx=>?_,I.base.free,fun b o q nx=>?_,I.base.tups,I.base.frzs,I.base.tbls⟩,⟨_,hn',fun j y v' e1 e2 e3=>?_⟩,fun y c q=>?_,I.free,I.freeC,fun p hp=>?_,fun b u q=>?_,by rw[List.length_set];exact I.len⟩
 ·obtain⟨sl,z⟩:=I.base.slot b o q n bf nx
  exact⟨sl,(hs.2 b (nb q)).trans z⟩
 ·obtain⟨o',z⟩:=I.base.there b o q nx
  exact⟨o',(hs.2 b (nb q)).trans z⟩
 ·have hj:i≠j:=fun z=>by
   subst z
   have hlt:i<σ.length:=by
    have:=(List.getElem?_eq_some_iff.mp e2).1;simpa using this
   rw[List.getElem?_set_self hlt] at e2
   cases e2
  rw[List.getElem?_set_ne hj] at e2
  obtain⟨u,r,q⟩:=hl j y v' e1 e2 e3
  refine⟨u,r,?_⟩
  rcases q with⟨k,z⟩|⟨k,c,q,z⟩
  ·have ny:y≠n:=fun z=>hj (nodup_ix hN (z▸hi) e1)
   exact .inl ⟨k,by simp[ny,z]⟩
  ·exact .inr ⟨k,c,q,z.sameBut hs (cne y c q)⟩
 ·obtain⟨w',z⟩:=I.cell y c q
  exact⟨w',z.sameBut hs (cne y c q)⟩
 ·obtain⟨p1,p2,p3,p4⟩:=I.pin p hp
  exact⟨(hs.2 p.1 p3).trans p1,p2,p3,p4⟩
 ·refine(I.hok b u q).stay (fun c w' hc z=>(hs.2 c ?_).trans z) (fun _ z=>z) fun _ _ z=>z
  have fl:=I.free
  intro z
  subst z
  rcases hc with z|z
  ·rw[<-z,fl] at q;cases q
  ·rw[fl] at z;cases z
end
theorem SR.drop {K:Frag}{H0 Hf H:Hp}{B:Addr->Prop}{sd:DSt}{σ:L2.St}(r:SR K H0 B Hf sd σ H)(i:Nat):SR K H0 B Hf (sd.set i none) (σ.set i none) H:=by
 have bk:∀{j:Nat} {t:S},(sd.set i none)[j]?=some (some t)->i≠j/\sd[j]?=some (some t):=fun {j t} q=>by
  by_cases hj:i=j
  ·subst hj
   have hlt:i<sd.length:=by
    have:=(List.getElem?_eq_some_iff.mp q).1;simpa using this
   rw[List.getElem?_set_self hlt] at q
   cases q
  ·rw[List.getElem?_set_ne hj] at q
   exact⟨hj,q⟩
 refine⟨r.sub,r.all,r.ban,r.bt,by rw[List.length_set,List.length_set];exact r.len,fun j t q z=>?_,fun j t q z=>?_,fun j k t u p hjk q1 o1 q2 o2 q3 q4=>?_⟩
 ·rw[List.getElem?_set_ne (bk q).1];exact r.imS j t (bk q).2 z
 ·rw[List.getElem?_set_ne (bk q).1];exact r.ow j t (bk q).2 z
 ·rw[List.getElem?_set_ne (bk q1).1] at q3
  rw[List.getElem?_set_ne (bk q2).1] at q4
  exact r.sep j k t u p hjk (bk q1).2 o1 (bk q2).2 o2 q3 q4
structure Hits (K:Frag) (C D:Addr):Prop where
 sub:subIn K (.ref C) (.ref D)=some true
 exc:subIn K (.ref D) (.type "BaseException")=some true
 ty:typeIn K (.ref D)=some (.type "type")
 tt:instIn K (.ref D) (.type "type")=some true
 nt:instIn K (.ref D) (.type "tuple")=some false
theorem x_hits {M:Model}{A:Around}{E:Value->Shared->Prop}{s:Shared}{K:Frag}{a C D:Addr}{oe:Obj}{Q:Bool->Shared->Prop}(X:K.In s.heap)(h:Hits K C D)(he:s.heap.get? a=some oe)(hc:oe.cls=.ref C)(hq:Q true s) :
  wpAny M A (excMatches (.ref a) (.ref D)) Q E s:=by
 have t1:Looks M s.heap (typeOf (.ref a)) (.ref C):=hc▸(Looks.ld he).andThen .now
 have t2:=looks_subIn (M:=M) X h.sub
 have t3:=looks_subIn (M:=M) X h.exc
 have t4:=looks_instIn (M:=M) X h.nt
 have t5:=looks_instIn (M:=M) X h.tt
 have hD:∃oc od cd sl,s.heap.get? D=some ⟨oc,od,.cls cd,sl⟩:=by
  obtain⟨cd,q,_⟩:=Option.bind_eq_some_iff.mp (show mroIn K D (.type "BaseException")=some true from h.exc)
  unfold clsIn at q
  split at q
  ·rename_i ho
   exact⟨_,_,_,_,X _ _ ho⟩
  ·cases q
 obtain⟨oc,od,cd,sl,hD⟩:=hD
 obtain⟨hp,g,d,tk,os⟩:=s
 unfold excMatches
 repeat (first|with_reducible refine t1.here ?_|with_reducible refine t2.here ?_|with_reducible refine t3.here ?_|with_reducible refine t4.here ?_|with_reducible refine t5.here ?_|with_reducible refine wpAny_loadPart_at hD ?_|wp_step)
 exact hq
end DL
set_option maxHeartbeats 4000000
set_option linter.all false
set_option maxRecDepth 100000
namespace DL
open PySem PySem.Spec PySem.Calls PySem.Builtin PySem.Builtin.ObjectAttr PyProof.Rows L2 PySem.W
theorem xo_ok {P:Program}{w:World}{H:Hp}{h:Heap}{a C T:Addr}{dx:Option Addr}{fl:Value}(n:Nt h a (.ref C) dx T fl):ObjOk P w H h a (XO a C dx):=by
 obtain⟨oe,vs,e1,e2,e3,e4,_⟩:=n
 exact⟨⟨oe,vs,e1,e2,e3,e4⟩,⟨_,e1⟩,fun _ _ ⟨oe',vs',z1,z2⟩ k=>⟨oe',vs',k _ z1,z2⟩⟩
def sTry (F:List D->M S)(fs:DSt->M (List D))(j i:Nat)(cs:List Str)(g:DSt->M O)(sd:DSt):M O:=match fs sd with
 |.ok ds=>(match F ds with
  |.ok (.im d)=>.ok (.nx (sd.set j (some (.im d))))
  |.ok (.ow es)=>.ok (.nx (sd.set j (some (.ow es))))
  |.ex x=>if cs.contains x.cls then(match g (sd.set i (some (.xc x))) with
   |.ok (.nx sd')=>.ok (.nx (sd'.set i none))
   |_=>.bad) else .bad
  |_=>.bad)
 |_=>.bad
section
variable {X:Cx} {E:XK} {a:Expr}
end
end DL
set_option maxHeartbeats 4000000
set_option linter.all false
set_option maxRecDepth 100000
namespace DL
open PySem PySem.Spec PySem.Calls PySem.Builtin PySem.Builtin.ObjectAttr PyProof.Rows L2 PySem.W
section
variable {prog:Program} {w:World} {A:Around} {E:Value->Shared->Prop} {s:Shared} {K:Frag} {x C:Addr} {ox:Obj} {od:Option Obj} {name:Str} {tk:Tok} {v:Value} {R:Result->Shared->Prop}
theorem x_sub {M:Model}{T:String}(X:K.In s.heap)(I:PySem.W.InstAt s.heap x ox C od)(c:XCls K C)(hT:exMro.contains (.type T)=true):Looks M s.heap (isInstance (.ref x) (.type T)) true:=by
 obtain⟨cd,hc,ho⟩:=any_some c.ov
 have ne:cd.mro.isEmpty=false:=by
  cases q:cd.mro with
  |nil=>rw[q] at ho;cases ho
  |cons _ _=>rfl
 exact I.type.andThen (looks_mroIn X (by unfold mroIn;rw[hc,Option.bind_some,if_neg (by rw[ne];decide),ex_has hT ho]))
theorem ga_kind:builtinKind "BaseException.__getattribute__" = some .slot:=by decide +kernel
theorem ga_split:splitId "BaseException.__getattribute__" = some ("BaseException", "__getattribute__"):=by decide +kernel
theorem x_ga (X:K.In s.heap)(I:PySem.W.InstAt s.heap x ox C od)(c:XCls K C){r:Found}(hf:findObj K C od name=some r)
  (h:wpAny (model prog w) A.in1 (match r with | .value v=>ret v | .bind g a=>bindTo g a (.ref x) (.ref C) | .missing=>unsupported "") (fun fin s'=>match fin with | .done f=>R (.ok f) s' | .again c'=>c'.quiet=true/\codeAny (model prog w) A c' R s') (fun e s'=>R (.error e) s') s) (hr:r≠.missing) :
  codeAny (model prog w) A (.call (.builtin "BaseException.__getattribute__") ⟨[.ref x,.str name tk],[]⟩) R s:=by
 have sub:=x_sub (M:=model prog w) X I c (T := "BaseException") (by decide +kernel)
 refine codeAny_call_builtin PySem.F.attr_ValueError.ga.plain PySem.F.entry_bexc_ga (@check_slot (model prog w) _ _ s "BaseException.__getattribute__" "BaseException" "__getattribute__" (.ref x) [.str name tk] [] _ ga_kind ga_split sub (PySem.F.args_bexc_ga (.ref x) (.str name tk)) ?_)
 have L0:=I.type (M:=model prog w)
 have L1:=looks_find (M:=model prog w) X I hf
 refine wpAny_bind (wpAny_pure (wpAny_bind (wpAny_pure (wpAny_bind (L0.here (wpAny_bind (L1.here ?_)))))))
 cases r with
 |value v=>exact h
 |bind g a=>exact h
 |missing=>exact absurd rfl hr
theorem x_getBy {fill expr:Bool}{Q:Value->Shared->Prop}(X:K.In s.heap)(I:PySem.W.InstAt s.heap x ox C od)(c:XCls K C)
  (h:codeAny (model prog w) A (.call (.builtin "BaseException.__getattribute__") ⟨[.ref x,.str name tk],[]⟩) (fun r s'=>match r with | .ok (.ret v)=>wpAny (model prog w) A (handedOut v) Q E s'|_=>False) s) :
  wpAny (model prog w) A (getAttrBy (.ref x) (.str name tk) fill expr) Q E s:=by
 have L0:=I.type (M:=model prog w)
 have L1:=looks_findIn (M:=model prog w) X c.ga
 have L2:=looks_findIn (M:=model prog w) X c.gn
 unfold getAttrBy
 refine wpAny_holding (wpAny_bind (L0.here (wpAny_bind (L1.here ?_))))
 have e1:(Value.builtin "BaseException.__getattribute__" == Value.builtin "object.__getattribute__")=false:=by decide +kernel
 have e2:(onTheHeap (Value.ref C)&&Value.builtin "BaseException.__getattribute__" == Value.builtin "object.__getattribute__")=false:=by rw[e1];rfl
 have e3:(expr&&onTheHeap (Value.builtin "BaseException.__getattribute__"))=false:=by cases expr<;>rfl
 dsimp only
 rw[if_neg (by rw[e2];decide)]
 unfold getAttrByItsOwn hookBefore
 rw[if_pos (show onTheHeap (Value.ref C)=true from rfl)]
 refine wpAny_bind (L2.here (wpAny_bind (wpAny_attempt (wpAny_holding ?_))))
 unfold callGetattribute
 rw[if_neg (by rw[e3];decide)]
 unfold boundAndCalled
 rw[PySem.F.attr_ValueError.ga.bind (.ref x)]
 refine wpAny_bind (wpAny_pure (wpAny_call (codeAny_mono h fun r s' z=>?_)))
 cases r with
 |error e=>exact z.elim
 |ok f =>
  cases f with
  |ret v=>exact z
  |_=>exact z.elim
theorem x_get {expr:Bool}{Q:Value->Shared->Prop}(X:K.In s.heap)(I:PySem.W.InstAt s.heap x ox C od)(c:XCls K C)(hf:findObj K C od name=some (.value v))(hv:handedIn v=true)(h:Q v { s with toks:=s.toks+1 }) :
  wpAny (model prog w) A (getAttr (.ref x) name expr) Q E s:=by
 unfold getAttr
 refine wpAny_bind (wpAny_mkText ?_)
 refine x_getBy (s:={ s with toks:=s.toks+1 }) X I c (x_ga (s:={ s with toks:=s.toks+1 }) X I c hf ?_ (fun z=>nomatch z))
 refine wpAny_pure ?_
 show wpAny _ _ (handedOut v) _ _ _
 rw[handedOut_of hv]
 exact wpAny_pure h
structure XKit (K:Frag) (C:Addr):Prop where
 ha:findIn K (.ref C) "__class__" = some (some (.builtin "object.__class__"))
 hn:specialIn K (.builtin "object.__class__") "__get__" = some (some (.builtin "getset_descriptor.__get__"))
 ht:takesIn K (.builtin "object.__class__")=some true
 hm:mroIn K C (.type "object")=some true
theorem x_class {o':Obj}{Q:Option Value->Shared->Prop}(X:K.In s.heap)(I:PySem.W.InstAt s.heap x ox C (some o'))(c:XCls K C)(k:XKit K C)(h:Q (some (.ref C)) { s with toks:=s.toks+1 }) :
  wpAny (model prog w) A (getAttr? (.ref x) "__class__") Q E s:=by
 have hf:findObj K C (some o') "__class__" = some (.bind (.builtin "getset_descriptor.__get__") (.builtin "object.__class__")):=findObj_data (by obtain⟨cd,hc,_⟩:=any_some c.hd;rw[hc];rfl) k.ha k.hn k.ht
 unfold getAttr? getAttrBy?
 refine wpAny_bind (wpAny_mkText (wpAny_bind (wpAny_attempt ?_)))
 refine x_getBy (s:={ s with toks:=s.toks+1 }) X I c (x_ga (s:={ s with toks:=s.toks+1 }) X I c hf ?_ (fun z=>nomatch z))
 show wpAny _ _ (bindTo _ _ _ _) _ _ _
 unfold bindTo
 refine wpAny_bind (wpAny_holding (wpAny_call (class_get (s:={ s with toks:=s.toks+1 }) X I k.hm ?_)))
 exact wpAny_pure (handed_on rfl (wpAny_pure h))
theorem x_kit {o':Obj}(c:XCls K C)(k:XKit K C):KitX K (.ref x) (.ref C) (fun h=>PySem.W.InstAt h x ox C (some o')) where
 ty:=fun _ _ _ I=>I.type
 it:=fun _ _ X _=>by
  obtain⟨cdD,hcD,_⟩:=any_some c.hd
  unfold clsIn at hcD
  split at hcD
  ·rename_i ho
   intro A' Q' E' s' kk q
   unfold isType loadHead
   exact wpAny_bind (wpAny_loadPart (kk _ _ (X _ _ ho)) (wpAny_pure q))
  ·cases hcD
 ne:=fun h tp dd its n sl X htp=>by
  obtain⟨cdD,hcD,_⟩:=any_some c.hd
  refine Bool.eq_false_iff.mpr fun q=>?_
  have e:C=tp:=Value.ref.inj (beq_iff_eq.mp q)
  subst e
  unfold clsIn at hcD
  split at hcD
  ·rename_i ho
   have z:=(X _ _ ho).symm.trans htp
   cases z
  ·cases hcD
 ca:=fun X I kk=>x_class X I c k kk
end
end DL
set_option maxHeartbeats 4000000
set_option linter.all false
set_option maxRecDepth 100000
namespace DL
open PySem PySem.Spec PySem.Calls PySem.Builtin PySem.Builtin.ObjectAttr PyProof.Rows L2 PySem.W
theorem xo_inst {X:Cx}{pins:List (Addr×Obj)}{σ:L2.St}{H:Hp}{s:Shared}{a C dx:Addr}{fs:List (Str×V)}(I:Inv X pins σ H s)(h1:H a=some (XO a C (some dx)))(h2:H dx=some (.xd fs)) :
  ∃oe od,PySem.W.InstAt s.heap a oe C (some od)/\∀f,∃r,lookIn f od=some r/\RelO (fs.lookup f) r:=by
 obtain⟨⟨oe,vs,e1,e2,e3,e4⟩,_⟩:=(show ObjOk X.prog X.w H s.heap a (XO a C (some dx)) from I.hok a _ h1)
 obtain⟨mA,n1,r⟩:=(show ObjOk X.prog X.w H s.heap dx (.xd fs) from I.hok dx _ h2)
 obtain⟨od,ho,hl⟩:=lookIn_ns n1
 refine⟨oe,od,⟨e1,e2,?_,?_⟩,fun f=>⟨mA f,hl f,r f⟩⟩
 ·unfold notCls;rw[e4]
 ·rw[e3];exact ho
def vOf:V->Value
 |.ref a=>.ref a
 |.ty n=>.type n
 |_=>.none
section
variable {X:Cx} {E:XK} {pos p p2 p3:Pos} {vn cn f:Str}
theorem call_instX:CallR X (.builtin "isinstance") (fun xs H Q=>∃a C dx fs b vc,xs=[.ref a,vc]/\((∃d,vc=.ref d)\/∃n,vc=.ty n)/\H a=some (XO a C (some dx))/\H dx=some (.xd fs)/\XCls X.K C/\XKit X.K C/\kitOne X.K (.ref C) (vOf vc)=some b/\Q (.bl b) H):=by
 intro pins s σ H xs us Q I r h
 obtain⟨a,C,dx,fs,b,vc,rfl,hv,h1,h2,c,k,e,q⟩:=h
 obtain⟨u,w',rfl,r1,r2⟩:=vals2 r
 cases (show u=Value.ref a from r1)
 have ew:w'=vOf vc:=by
  rcases hv with⟨d,rfl⟩|⟨n,rfl⟩<;>exact r2
 subst ew
 obtain⟨oe,od,I',_⟩:=xo_inst I h1 h2
 exact PySem.W.kia_one (x_kit (o':=od) (ox:=oe) c k) I.kIn I' e (fun z=>nomatch z) fun tk=>⟨.bl b,H,I.tok _,rfl,q⟩
structure XKnow (K:Frag) (y:Str) (C:Addr):Prop where
 at_:nsIn K mainGlobals y=some (some (.ref C))
 cl:XCls K C
 kt:XKit K C
def Y4 (i:Nat)(cs:List Str)(anc:Str->List Str)(cn:Str)(sd:DSt):M D:=match sd[i]? with
 |some (some (.xc x))=>if cs.contains x.cls&&!x.ns.isEmpty then .ok (.bl ((anc x.cls).contains cn)) else .bad
 |_=>.bad
theorem pd_instX (i:Nat)(cs:List Str)(anc:Str->List Str){t2:TE}{vc:V}(hvc:(∃d,vc=.ref d)\/∃n,vc=.ty n)(pc:PE X (.Name cn p3) t2)(qc:∀σ H Q,Q vc H->t2 σ H Q)(hk:∀y∈cs,∃C,XKnow X.K y C/\kitOne X.K (.ref C) (vOf vc)=some ((anc y).contains cn)) (hm:X.mg "isinstance" = none) (hg:Gl X "isinstance" := by rfl)
  (hN:X.N[i]?=some vn:=by rfl) (hv:Vis X.env.scope vn:=by first|exact Or.inl rfl|exact Or.inr (Or.inl rfl)|exact Or.inr (Or.inr rfl)) (hd:(vn==("__debug__" : Str))=false:=by decide) (hcd:(vn==("__classdict__" : Str))=false:=by decide)
  (he:starEach [.Name vn p2,.Name cn p3] X.env=(false,eval (.Name vn p2) X.env)::starEach [.Name cn p3] X.env:=by rfl) (he2:starEach [.Name cn p3] X.env=(false,eval (.Name cn p3) X.env)::starEach [] X.env:=by rfl)
  (hpl:(backTo pos (starEach [.Name cn p3] X.env)).any (·.1)=false:=by rfl) (hbt:bootBuiltins "isinstance" = some (.builtin "isinstance"):=by rfl) :
  PEd X E (.Call (.Name "isinstance" p) [.Name vn p2,.Name cn p3] [] pos) (Y4 i cs anc cn):=by
 refine⟨_,pe_callB call_instX hg hm hbt (pa_cons (Ym hN hv hd hcd) (pa_cons pc pa_nil he2) he) (by decide) (by decide) he hpl,fun H0 B Hf sd σ H Q sr h=>?_⟩
 unfold Y4 at h
 split at h
 ·rename_i x ei
  split at h
  ·rename_i hc
   obtain⟨hc1,hc2⟩:=Bool.and_eq_true_iff.mp hc
   obtain⟨v,e1,a,C,dx,xs,rfl,e2,e3,e4,e5⟩:=sr.imS i _ ei rfl
   obtain⟨C',⟨z1,z2,z3⟩,z4⟩:=hk x.cls (by simpa using hc1)
   rw[e3] at z1;cases z1
   cases dx with
   |none =>
    have:=e4.1
    rw[this] at hc2;cases hc2
   |some d =>
    exact⟨.ref a,e1,qc _ _ _ ⟨a,C,d,_,_,vc,rfl,hvc,sr.sub _ _ e2,sr.sub _ _ e4.1,z2,z3,z4,Po.ret (R:=rV X.K) sr.sub h (rep_bl.mpr rfl)⟩⟩
  ·exact h.elim
 ·exact h.elim
def eFldX (i:Nat)(cs:List Str)(f:Str)(sd:DSt):M D:=match sd[i]? with
 |some (some (.xc x))=>if cs.contains x.cls&&x.ns==[f] then(match x.ds with | [d]=>.ok d|_=>.bad) else .bad
 |_=>.bad
def tFldX (K:Frag)(ta:TE)(f:Str):TE:=fun σ H Q=>ta σ H fun x H1=>∃a C dx fs v,x=.ref a/\H1 a=some (XO a C (some dx))/\H1 dx=some (.xd fs)/\XCls K C/\NoAttr K C f/\fs.lookup f=some v/\Q v H1
theorem pe_fldX {o:Expr}{ta:TE}(ha:PE X o ta)(hb:attributeBase o f X.env (eval o X.env)=eval o X.env:=by rfl):PE X (.Attribute o f pos) (tFldX X.K ta f):=by
 intro pins s σ H Q I h
 refine attr_of hb (thn (ha pins s σ H _ I h) fun ov s1 ⟨x,H1,I1,rx,a,C,dx,fs,v,ex,e1,e2,c,n,l,q⟩=>?_)
 subst ex
 obtain rfl:ov=Value.ref a:=rx
 obtain⟨oe,od,I',hl⟩:=xo_inst I1 e1 e2
 obtain⟨r,h1,h2⟩:=hl f
 rw[l] at h2
 obtain⟨u,rfl,ru⟩:=RelO.some_of h2
 exact x_get I1.kIn I' c (findObj_own c.hd n rfl h1) (handed_of ru) ⟨v,H1,I1.tok _,ru,q⟩
theorem pd_fldX (i:Nat)(cs:List Str)(hk:∀y∈cs,∃C,XKnow X.K y C/\NoAttr X.K C f)(hN:X.N[i]?=some vn:=by rfl)(hv:Vis X.env.scope vn:=by first|exact Or.inl rfl|exact Or.inr (Or.inl rfl)|exact Or.inr (Or.inr rfl)) (hd:(vn==("__debug__" : Str))=false:=by decide) (hcd:(vn==("__classdict__" : Str))=false:=by decide)
  (hb:attributeBase (.Name vn p) f X.env (eval (.Name vn p) X.env)=eval (.Name vn p) X.env:=by rfl):PEd X E (.Attribute (.Name vn p) f pos) (eFldX i cs f):=by
 refine⟨_,pe_fldX (Ym hN hv hd hcd) hb,fun H0 B Hf sd σ H Q sr h=>?_⟩
 unfold eFldX at h
 split at h
 ·rename_i x ei
  split at h
  ·rename_i hc
   obtain⟨hc1,hc2⟩:=Bool.and_eq_true_iff.mp hc
   have hns:x.ns=[f]:=beq_iff_eq.mp hc2
   obtain⟨v,e1,a,C,dx,xs,rfl,e2,e3,e4,e5⟩:=sr.imS i _ ei rfl
   obtain⟨C',⟨z1,z2,z3⟩,z4⟩:=hk x.cls (by simpa using hc1)
   rw[e3] at z1;cases z1
   split at h
   ·rename_i d ed
    rw[ed] at e5
    obtain⟨y,r,rfl,ry,rn⟩:=reps_cons.mp e5
    rw[reps_nil] at rn
    subst rn
    cases dx with
    |none=>have:=e4.1;rw[hns] at this;cases this
    |some d' =>
     refine⟨.ref a,e1,a,C,d',_,y,rfl,sr.sub _ _ e2,sr.sub _ _ e4.1,z2,z4,?_,Po.ret (R:=rV X.K) sr.sub h ry⟩
     rw[hns]
     simp[List.zip,List.lookup]
   ·exact h.elim
  ·exact h.elim
 ·exact h.elim
def nonD:D->Bool
 |.non=>true
 |_=>false
def eIsNS (i:Nat)(sd:DSt):M D:=match sd[i]? with
 |some (some (.im d))=>.ok (.bl (nonD d))
 |some (some (.xc _))=>.ok (.bl false)
 |_=>.bad
theorem rep_isnon {K:Frag}{H:Hp}{d:D}{v:V}(r:Rep K H d v):decide (v=.non)=nonD d:=by
 cases d with
 |non=>rw[rep_non.mp r];rfl
 |bl b=>rw[rep_bl.mp r];rfl
 |int b=>rw[rep_int.mp r];rfl
 |str b=>rw[rep_str.mp r];rfl
 |tup b=>obtain⟨a,xs,rfl,_⟩:=rep_tup.mp r;rfl
 |lst b=>obtain⟨a,xs,rfl,_⟩:=rep_lst.mp r;rfl
theorem pd_isNS (i:Nat){j}(hN:X.N[i]?=some vn:=by rfl)(hv:Vis X.env.scope vn:=by first|exact Or.inl rfl|exact Or.inr (Or.inl rfl)|exact Or.inr (Or.inr rfl)) (hd:(vn==("__debug__" : Str))=false:=by decide) (hcd:(vn==("__classdict__" : Str))=false:=by decide)
  (hm:behindInMarks .Is (.Constant .none j p2)=false:=by rfl):PEd X E (.Compare (.Name vn p) [.Is] [.Constant .none j p2] pos) (eIsNS i):=by
 refine⟨_,pe_cmp (pc_isN (Ym hN hv hd hcd)) hm,fun H0 B Hf sd σ H Q sr h=>?_⟩
 unfold eIsNS at h
 split at h
 ·rename_i d ei
  obtain⟨v,e1,e2⟩:=sr.im i d ei
  refine⟨v,e1,?_⟩
  dsimp only
  rw[rep_isnon e2]
  exact Po.ret (R:=rV X.K) sr.sub h (rep_bl.mpr rfl)
 ·rename_i x ei
  obtain⟨v,e1,a,_,_,_,rfl,_⟩:=sr.imS i _ ei rfl
  exact⟨.ref a,e1,Po.ret (R:=rV X.K) sr.sub h (rep_bl.mpr rfl)⟩
 ·exact h.elim
def sMvX (j i:Nat)(sd:DSt):M O:=match sd[i]? with
 |some (some (.xc x))=>.ok (.nx (sd.set j (some (.xc x))))
 |_=>.bad
theorem psd_mvX (j i:Nat){y:Str}(nd:X.N.Nodup)(hj:X.N[j]?=some y:=by rfl)(hy:Loc X.env.scope y:=by first|exact Or.inl rfl|exact Or.inr rfl)(hN:X.N[i]?=some vn:=by rfl)(hv:Vis X.env.scope vn:=by first|exact Or.inl rfl|exact Or.inr (Or.inl rfl)|exact Or.inr (Or.inr rfl)) (hd:(vn==("__debug__" : Str))=false:=by decide) (hcd:(vn==("__classdict__" : Str))=false:=by decide)
  (hs:swapsWith (.Name vn p) (some (.Name y p2)) pos.line X.env=pure false:=by rfl) (hf:X.fn y=true\/X.env.scope.names.lookup y=some .local:=by first|exact .inl rfl|exact .inr rfl):PSd X E (.Assign [.Name y p2] (.Name vn p) pos) (sMvX j i):=by
 refine⟨_,ps_set nd hj hy (Ym hN hv hd hcd) hs hf,fun H0 B Hf sd σ H D' sr h=>?_⟩
 unfold sMvX at h
 split at h
 ·rename_i x ei
  obtain⟨v,e1,e2⟩:=sr.imS i _ ei rfl
  exact⟨v,e1,h _ Hf H (Same.refl _) (sr.set_st j rfl e2)⟩
 ·exact h.elim
end
theorem SR.ofS {K:Frag}{Hf H:Hp}{sd:DSt}{σ:L2.St}(e:Same Hf H)(hl:sd.length=σ.length)(hS:∀(i:Nat) (t:S),sd[i]?=some (some t)->t.own=false/\∃v,σ[i]?=some (some v)/\RepS K Hf t v) :
  SR K H (fun a=>H a≠none/\Hf a=none) Hf sd σ H :=
 ⟨e,Same.refl _,fun _ h=>h.2,fun _ h=>h.1,hl,fun i t h _=>(hS i t h).2,fun i t h ho=>(by rw[(hS i t h).1] at ho;cases ho),fun i _ t _ _ _ h ho _ _ _ _=>(by rw[(hS i t h).1] at ho;cases ho)⟩
def spE (K:Frag)(F:XV->List D->M S):Sp:=fun vs H Q _=>∃Hf x ds v r s,vs=v::r/\Same Hf H/\RepE K Hf x v/\Reps K Hf ds r/\F x ds=.ok s/\∀v Hf' H',Gr Hf H Hf' H'->RS K H Hf' H' s v->Q v H'
def fnE (n m:Nat)(f:DSt->M O)(x:XV)(ds:List D):M S:=if ds.length=n then fin' (f (some (.xc x)::(ds.map (fun d=>some (S.im d))++List.replicate m none))) else .bad
theorem sr_startE {K:Frag}{N:List Str}{Hf H:Hp}{x:XV}{ds:List D}{v:V}{vs:List V}{m:Nat}(e:Same Hf H)(rx:RepE K Hf x v)(r:Reps K Hf ds vs)(hN:N.length=ds.length+1+m) :
  SR K H (fun a=>H a≠none/\Hf a=none) Hf (some (.xc x)::(ds.map (fun d=>some (S.im d))++List.replicate m none)) (L2.Yy N (v::vs)) H:=by
 have hlen:=r.length
 have es:L2.Yy N (v::vs)=some v::(vs.map some++List.replicate m none):=by
  unfold L2.Yy
  rw[List.map_cons,List.cons_append,show N.length - (v::vs).length=m by rw[List.length_cons];lia]
 rw[es]
 refine SR.ofS e (by simp[hlen]) fun i t h=>?_
 cases i with
 |zero =>
  rw[List.getElem?_cons_zero] at h
  cases h
  exact⟨rfl,v,rfl,rx⟩
 |succ i =>
  rw[List.getElem?_cons_succ] at h ⊢
  by_cases hl:i<ds.length
  ·rw[List.getElem?_append_left (by simpa using hl),List.getElem?_map] at h
   cases q:ds[i]? with
   |none=>rw[q] at h;cases h
   |some d =>
    rw[q] at h
    cases h
    obtain⟨y,e1,e2⟩:=r.get q
    have:i<vs.length:=(List.getElem?_eq_some_iff.mp e1).1
    exact⟨rfl,y,by rw[List.getElem?_append_left (by simpa using this),List.getElem?_map,e1];rfl,e2⟩
  ·rw[List.getElem?_append_right (by simpa using hl),List.getElem?_replicate] at h
   split at h<;>cases h
theorem fn_e {P:Program}{w:World}{K:Frag}{mg:Str->Option Value}{base:Heap}{x qual:Str}{st:Stmt}{f:Addr}{fd:FuncData}{N ps:List Str}{k m n:Nat}{fb:DSt->M O}(F:Fun K x qual st f fd)(sc:FnScope N ps (Zh st))(hn:ps.length=n+1)(hN:N.length=n+1+m)(hbody:∀(cdv:Value) (A:Around) (outer:List Env) (s:Shared) (H:Hp) (E:XK),Room k (A.deeper (envOfC qual (Zh st) s.heap.objs.size f cdv)) ->
   PSsd (cxOf CX0 P w K mg base N qual (Zh st) f cdv A outer s H E).nox E0 (Zz st) fb):FnOk P w K mg base CX0 (k+1) f fd ps (spE K (fnE n m fb)):=by
 refine F.ok sc (fun vs H Q E h=>?_) (fun cdv A outer s H vs Q E hr h=>?_)
 ·obtain⟨Hf,x,ds,v,r,s,rfl,e,_,rs,hF,_⟩:=h
  unfold fnE at hF
  split at hF
  ·rename_i hl
   rw[List.length_cons,<-rs.length,hl,hn]
  ·cases hF
 ·obtain⟨Hf,x,ds,v,r,s',rfl,e,rx,rs,hF,q⟩:=h
  obtain⟨t,p,qt⟩:=hbody cdv A outer s H E hr
  unfold fnE at hF
  split at hF
  ·rename_i hl
   refine⟨t,p,qt H _ Hf _ (L2.Yy N (v::r)) H _ (sr_startE (N:=N) (m:=m) e rx rs (by lia)) ?_⟩
   generalize fb (some (S.xc x)::(List.map (fun d=>some (S.im d)) ds++List.replicate m none))=ro at hF
   have back:∀{v:V} {Hf' H':Hp} {s:DL.S},Same Hf Hf'->Fin' H (fun a=>H a≠none/\Hf a=none) Hf' H'->RS K H Hf' H' s v->s=s'->Q v H':=fun {v Hf' H' s} e1 e2 e3 e4=>by
    subst e4
    exact q v Hf' H' ⟨e1,e2.sub,e2.all,fun a h1 h2=>e2.ban a ⟨h1,h2⟩⟩ e3
   cases ro with
   |ok o =>
    cases o with
    |rt s2 =>
     have e':s2=s':=by cases hF;rfl
     exact fun v Hf' H' e1 e2 e3=>back e1 e2 e3 e'
    |nx sd' =>
     have e':DL.S.im .non=s':=by cases hF;rfl
     exact fun σ' Hf' H' e1 sr'=>back (v:=.non) (s:=DL.S.im .non) e1 sr'.fin (show Rep K Hf' .non .non from rep_non.mpr rfl) e'
    |bk sd'=>cases hF
    |ct sd'=>cases hF
   |ex x=>cases hF
   |bad=>cases hF
  ·cases hF
def eCallE (i:Nat)(F:XV->List D->M S)(fs:DSt->M (List D))(sd:DSt):M D:=match sd[i]? with
 |some (some (.xc x))=>(fs sd).bind fun ds=>(match F x ds with
  |.ok (.im d)=>.ok d
  |_=>.bad)
 |_=>.bad
section
variable {X:Cx} {E:XK} {pos p p2:Pos} {vn:Str}
theorem pd_callE (i:Nat){k:Nat}{f:Addr}{fd:FuncData}{ps:List Str}{F:XV->List D->M S}{x:Str}{es:List Expr}{fs:DSt->M (List D)}(G:FnOk X.prog X.w X.K X.mg X.base CX0 k f fd ps (spE X.K F))(hr:Room k X.A)(hm:X.mg x=some (.ref f))(hk:keepIn X.K (.ref f)=true)(hb:Binds X.K fd ps [])(ha:PAd X E es fs)(hN:X.N[i]?=some vn:=by rfl)(hv:Vis X.env.scope vn:=by first|exact Or.inl rfl|exact Or.inr (Or.inl rfl)|exact Or.inr (Or.inr rfl)) (hd:(vn==("__debug__" : Str))=false:=by decide) (hcd:(vn==("__classdict__" : Str))=false:=by decide)
  (hg:Gl X x:=by rfl) (hdb:(x==("__debug__" : Str))=false:=by decide) (he:starEach (.Name vn p2::es) X.env=(false,eval (.Name vn p2) X.env)::starEach es X.env:=by rfl) (hpl:(backTo pos (starEach es X.env)).any (·.1)=false:=by rfl) :
  PEd X E (.Call (.Name x p) (.Name vn p2::es) [] pos) (eCallE i F fs):=by
 obtain⟨t,pt,qt⟩:=ha
 refine⟨_,pe_call (dvs:=[]) (E:=E0) G hr hg hm hk hb .nil pass0 (pa_cons (Ym hN hv hd hcd) pt he) hdb he hpl,fun H0 B Hf sd σ H Q sr h=>?_⟩
 unfold eCallE at h
 split at h
 ·rename_i z ei
  obtain⟨v,e1,e2⟩:=sr.imS i _ ei rfl
  refine⟨v,e1,qt H0 B Hf sd σ H _ sr (Po.bind h fun ds vs Hf1 H1 _ g1 rs h1=>?_)⟩
  split at h1
  ·rename_i d eF
   exact⟨Hf1,z,ds,v,vs,.im d,by rw[List.append_nil],g1.sub,RepE.mono g1.fz e2,rs,eF,fun v2 Hf' H' g2 rv=>h1 v2 Hf' H' g2 rv⟩
  ·exact h1.elim
 ·exact h.elim
end
end DL
set_option maxHeartbeats 4000000
set_option linter.all false
set_option maxRecDepth 100000
namespace DL
open PySem PySem.Spec PyProof.Rows L2
def ItK (t:Bool)(h:Heap)(i l:Addr)(k:Nat):Prop:=∃o,h.get? i=some o/\o.cls=.type (if t then "tuple_iterator" else "list_iterator")/\o.data=.fields #[.ref l,.int k 0]
def SqK (t:Bool)(h:Heap)(l:Addr)(xs:Array Value):Prop:=∃o,h.get? l=some o/\o.cls=.type (if t then "tuple" else "list")/\∃n,o.data=.seq xs n
theorem ItK.at {t:Bool}{h h':Heap}{i l:Addr}{k:Nat}(x:ItK t h i l k)(q:∀o,h.get? i=some o->h'.get? i=some o):ItK t h' i l k:=let ⟨o,e,r⟩:=x;⟨o,q o e,r⟩
theorem SqK.at {t:Bool}{h h':Heap}{l:Addr}{xs:Array Value}(x:SqK t h l xs)(q:∀o,h.get? l=some o->h'.get? l=some o):SqK t h' l xs:=let ⟨o,e,r⟩:=x;⟨o,q o e,r⟩
section
variable {prog:Program} {w:World} {A:Around} {E:Value->Shared->Prop} {s:Shared}
theorem nextK_item {t:Bool}{it l:Addr}{i:Nat}{xs:Array Value}{x:Value}{Q:Value->Shared->Prop}(hi:ItK t s.heap it l i)(hl:SqK t s.heap l xs)(hx:xs[i]?=some x)(hQ:∀h',ItK t h' it l (i+1)->Heap.SameBut it s.heap h'->Q x { s with heap:=h' }):wpAny (model prog w) A (Builtin.SmallTypes.nextOf (.ref it)) Q E s:=by
 cases t with
 |false=>exact wpAny_nextOf_list_item (show s.heap.IsListIter it l i from hi) (show s.heap.IsList l xs from hl) hx hQ
 |true =>
  obtain⟨o,ho,hc,hd⟩:=id hi
  obtain⟨ol,hol,_,nl,hdl⟩:=hl
  have ty:s.TypeIs (.ref it) "tuple_iterator" := ⟨o,ho,hc⟩
  unfold Builtin.SmallTypes.nextOf
  refine wpAny_bind (wpAny_callSpecial?_slot (name:=Str.ofString "__next__") ty PyProof.Rows.slot_tupleiter_next (wpAny_call_entry PyProof.Rows.slot_tupleiter_next ty PyProof.Rows.entry_tupleiter_next ?_ (PyProof.Rows.args_tupleiter_next _)))
  refine wpAny_bind (m:=field (.ref it) 0) (wpAny_field ho hd (x:=.ref l) rfl ?_)
  dsimp only
  rw[if_neg (fun z:(Value.ref l==Value.none)=true=>Bool.false_ne_true z)]
  refine wpAny_bind (m:=field (.ref it) 1) (wpAny_field ho hd (x:=.int i 0) rfl (wpAny_bind (m:=seqItems? (.ref l)) (wpAny_seqItems hol hdl ?_)))
  simp only[Int.toNat_natCast,hx]
  refine wpAny_bind (wpAny_setField ho hd (by simp) (wpAny_pure ⟨x,rfl,wpAny_pure (hQ _ ⟨_,Heap.get?_update_self _ ho (Obj.isFreed_of_fields (Obj.data_mapFields hd _)),(Obj.cls_mapFields ..).trans hc,?_⟩ (Heap.SameBut.update ..))⟩))
  rw[Obj.data_mapFields hd];simp[rawInt]
theorem nextK_end {t:Bool}{it l:Addr}{i:Nat}{xs:Array Value}{Q:Value->Shared->Prop}(hh:A.handled=none)(hi:ItK t s.heap it l i)(hl:SqK t s.heap l xs)(hx:xs[i]?=none)
  (hE:∀h' e,Heap.ExtBut it s.heap h'->(∃o,h'.get? e=some o/\o.cls=.type "StopIteration")->E (.ref e) { s with heap:=h' }):wpAny (model prog w) A (Builtin.SmallTypes.nextOf (.ref it)) Q E s:=by
 cases t with
 |false=>exact wpAny_nextOf_list_end hh (show s.heap.IsListIter it l i from hi) (show s.heap.IsList l xs from hl) hx hE
 |true =>
  obtain⟨o,ho,hc,hd⟩:=id hi
  obtain⟨ol,hol,_,nl,hdl⟩:=hl
  have ty:s.TypeIs (.ref it) "tuple_iterator" := ⟨o,ho,hc⟩
  unfold Builtin.SmallTypes.nextOf
  refine wpAny_bind (wpAny_callSpecial?_slot (name:=Str.ofString "__next__") ty PyProof.Rows.slot_tupleiter_next (wpAny_call_entry PyProof.Rows.slot_tupleiter_next ty PyProof.Rows.entry_tupleiter_next ?_ (PyProof.Rows.args_tupleiter_next _)))
  refine wpAny_bind (m:=field (.ref it) 0) (wpAny_field ho hd (x:=.ref l) rfl ?_)
  dsimp only
  rw[if_neg (fun z:(Value.ref l==Value.none)=true=>Bool.false_ne_true z)]
  refine wpAny_bind (m:=field (.ref it) 1) (wpAny_field ho hd (x:=.int i 0) rfl (wpAny_bind (m:=seqItems? (.ref l)) (wpAny_seqItems hol hdl ?_)))
  simp only[Int.toNat_natCast,hx]
  refine wpAny_bind (wpAny_rule (wpAny_bind (wpAny_setField ho hd (by simp) (wpAny_bind (m:=newExc (.type "StopIteration") []) ?_))))
  simp only[newExc,newTuple]
  refine wpAny_bind (wpAny_newObj_type (wpAny_bind (m:=firstArgMember _ _) (wpAny_of_eq (a:=Value.none) (by first|rfl|(simp only[firstArgMember];rfl)) (wpAny_newObj_type ?_ (by size_fits)))) (by size_fits))
  simp only[raiseNew]
  refine wpAny_bind (wpAny_handled ?_)
  first|rw[show A.in1.handled=none from hh]|rw[hh]
  exact wpAny_bind (wpAny_pure (wpAny_throw (hE _ _ (((Heap.SameBut.update ..).extBut.push _).push _) ⟨_,Heap.get?_push_size _ rfl,rfl⟩)))
theorem iterK {t:Bool}{l:Addr}{xs:Array Value}{Q:Value->Shared->Prop}(hl:SqK t s.heap l xs)
  (hQ:Q (.ref s.heap.objs.size) { s with heap:=s.heap.push { cls:=.type (if t then "tuple_iterator" else "list_iterator"),data:=.fields #[.ref l,.int 0 0] } }):wpAny (model prog w) A (pyIter (.ref l)) Q E s:=by
 cases t with
 |false=>exact wpAny_pyIter_list (show s.heap.IsList l xs from hl) hQ
 |true=>exact PyProof.Rows.iter_tuple (show IsTup s.heap l xs from hl) hQ
abbrev itO (t:Bool)(l:Addr):Obj:={ cls:=.type (if t then "tuple_iterator" else "list_iterator"),data:=.fields #[.ref l,.int 0 0] }
end
def SqG (t:Bool)(K:PySem.W.Frag)(H:Hp)(a:Addr)(xs:List V):Prop:=if t=true then SqT K H a xs else SqL K H a xs
theorem inv_sqg {X:Cx}{pins:List (Addr×Obj)}{σ:L2.St}{H:Hp}{s:Shared}{t:Bool}{a:Addr}{xs:List V}(I:Inv X pins σ H s)(h:SqG t X.K H a xs):∃its:List Value,Vals xs its/\SqK t s.heap a its.toArray:=by
 cases t with
 |false =>
  obtain⟨its,rv,p,_⟩:=I.list (show SqL X.K H a xs from h)
  exact⟨its,rv,p.isList⟩
 |true =>
  obtain⟨its,rv,p,_⟩:=I.tuple (show SqT X.K H a xs from h)
  exact⟨its,rv,p⟩
theorem sqg_same {K:PySem.W.Frag}{H H':Hp}{t:Bool}{a:Addr}{xs:List V}(e:Same H H')(h:SqG t K H a xs):SqG t K H' a xs:=by
 cases t with
 |false=>exact e.seq (show SqL K H a xs from h)
 |true=>exact e.seqT (show SqT K H a xs from h)
section
variable {X:Cx} {E:XK} {pos p p2:Pos} {es:List Expr} {k:Nat}
end
end DL
set_option maxHeartbeats 4000000
set_option linter.all false
set_option maxRecDepth 100000
namespace DL
open PySem PySem.Spec PyProof.Rows L2
section
variable {X:Cx} {E:XK} {pos:Pos} {a b:Expr}
end
end DL
set_option maxHeartbeats 4000000
set_option linter.all false
set_option maxRecDepth 100000
namespace DL
open PySem PySem.Spec PyProof.Rows L2 PySem.W
def xclsB (K:Frag)(C:Addr):Bool:=findIn K (.ref C) "__setattr__" == some (some (.builtin "object.__setattr__"))&&findIn K (.ref C) "__getattribute__" == some (some (.builtin "BaseException.__getattribute__")) &&
 findIn K (.ref C) "__getattr__" == some none&&hasDictIn K C&&(clsIn K C).any (fun cd=>exOnly cd.mro)
theorem xcls_of {K:Frag}{C:Addr}(h:xclsB K C=true):XCls K C:=by
 unfold xclsB at h
 simp only[Bool.and_eq_true,beq_iff_eq] at h
 exact⟨h.1.1.1.1,h.1.1.1.2,h.1.1.2,h.1.2,h.2⟩
def xkitB (K:Frag)(C:Addr):Bool:=findIn K (.ref C) "__class__" == some (some (.builtin "object.__class__"))&&specialIn K (.builtin "object.__class__") "__get__" == some (some (.builtin "getset_descriptor.__get__")) &&
 takesIn K (.builtin "object.__class__")==some true&&mroIn K C (.type "object")==some true
theorem xkit_of {K:Frag}{C:Addr}(h:xkitB K C=true):XKit K C:=by
 unfold xkitB at h
 simp only[Bool.and_eq_true,beq_iff_eq] at h
 exact⟨h.1.1.1,h.1.1.2,h.1.2,h.2⟩
def hitsB (K:Frag)(C D:Addr):Bool:=subIn K (.ref C) (.ref D)==some true&&subIn K (.ref D) (.type "BaseException")==some true&&typeIn K (.ref D)==some (.type "type")&&instIn K (.ref D) (.type "type")==some true&&instIn K (.ref D) (.type "tuple")==some false
theorem hits_of {K:Frag}{C D:Addr}(h:hitsB K C D=true):Hits K C D:=by
 unfold hitsB at h
 simp only[Bool.and_eq_true,beq_iff_eq] at h
 exact⟨h.1.1.1.1,h.1.1.1.2,h.1.1.2,h.1.2,h.2⟩
def inCls (s:Stmt)(j:Nat):Stmt:=match s with
 |.ClassDef _ _ _ body _ _ _ _ _ _ _=>body.getD j (.Pass ⟨0,0,0,0⟩)
 |_=>.Pass ⟨0,0,0,0⟩
theorem know_of {K:Frag}{y:Str}{C:Addr}(h1:nsIn K mainGlobals y=some (some (.ref C)))(h2:xclsB K C=true)(h3:xkitB K C=true):XKnow K y C:=⟨h1,xcls_of h2,xkit_of h3⟩
theorem Xl {P:Str->Prop}{y:Str}(h:P y):∀z∈[y],P z:=fun z hz=>by
 have:z=y:=by simpa using hz
 rw[this];exact h
section
variable {X:Cx} {E:XK} {pos p p2:Pos} {vn:Str}
end
end DL
set_option maxHeartbeats 4000000
set_option linter.all false
set_option maxRecDepth 100000
namespace DL
open PySem PySem.Spec PyProof.Rows L2 PySem.W
theorem pd_globI {X:Cx}{E:XK}{x:Str}{i:Int}{t:Tok}{pos:Pos}(hm:X.mg x=some (.int i t))(hg:Gl X x:=by rfl) (hd:(x==("__debug__" : Str))=false:=by decide):PEd X E (.Name x pos) (eC (.int i)) :=
 ⟨_,pe_glob (v:=.int i) hg hm ⟨t,rfl⟩ hd,fun _ _ _ _ _ _ _ sr h=>Po.ret sr.sub h (rep_int.mpr rfl)⟩
end DL
set_option maxHeartbeats 4000000
set_option linter.all false
set_option maxRecDepth 100000
namespace DL
open PySem PySem.Spec PyProof.Rows L2
open AutoSeq1 (wpAny_loadPart')
section
variable {prog:Program} {w:World} {A:Around} {E:Value->Shared->Prop} {s:Shared}
theorem enumK_item {t:Bool}{e it l:Addr}{i:Nat}{xs:Array Value}{x old:Value}{Q:Value->Shared->Prop}(he:IsEnum s.heap e it i old)(hi:ItK t s.heap it l i)(hl:SqK t s.heap l xs)(hx:xs[i]?=some x)(ne:e≠it)
  (hQ:∀h',IsEnumOut h' e it ((i:Int)+1) x s.heap.objs.size->ItK t h' it l (i+1)->h'.get? s.heap.objs.size=some { cls:=.type "tuple", data:=.seq #[.int i s.toks,x] }->(∀b o,b≠e->b≠it->s.heap.get? b=some o->h'.get? b=some o)->Q (.ref s.heap.objs.size) { s with heap:=h',toks:=s.toks+1 }) :
  wpAny (model prog w) A (Builtin.«enumerate.__next__» ⟨[.ref e],[]⟩) (fun fin s'=>∃v,fin=.done (.ret v)/\Q v s') E s:=by
 obtain⟨hp,g,d,tk,os⟩:=s
 refine wpAny_bind (m:=field (.ref e) 2) (wpAny_field he rfl (x:=.ref it) rfl (wpAny_bind (nextK_item hi hl hx fun h1 n1 c1=>?_)))
 replace c1:Heap.SameBut it hp h1:=c1
 have b1:IsEnum h1 e it i old:=(c1.2 e ne).trans he
 refine wpAny_bind (m:=field (.ref e) 3) (wpAny_field (s:=⟨h1,g,d,tk,os⟩) b1 rfl (x:=rawInt i) rfl (wpAny_bind (m:=field (.ref e) 4) (wpAny_field (s:=⟨h1,g,d,tk,os⟩) b1 rfl (x:=.none) rfl ?_)))
 refine wpAny_bind (m:=mkInt i) (wpAny_mkInt ?_)
 refine wpAny_bind (m:=setField (.ref e) 3 (rawInt ((i:Int)+1))) (wpAny_setField_rec (s:=⟨h1,g,d,tk+1,os⟩) b1 (by simp) fun h2 b2 c2=>?_)
 replace c2:Heap.SameBut e h1 h2:=c2
 replace b2:IsEnum h2 e it ((i:Int)+1) old:=b2
 refine wpAny_bind (m:=setField (.ref e) 4 .none) (wpAny_setField_rec (s:=⟨h2,g,d,tk+1,os⟩) b2 (by simp) fun h3 b3 c3=>?_)
 replace c3:Heap.SameBut e h2 h3:=c3
 replace b3:IsEnum h3 e it ((i:Int)+1) old:=b3
 refine wpAny_bind (m:=newTuple [.int i tk,x]) (wpAny_newTuple ?_)
 have sz:h3.objs.size=hp.objs.size:=by rw[c3.1,c2.1,c1.1]
 have el:e<hp.objs.size:=Heap.lt_size he
 have ge:hp.objs.size≠e:=Nat.ne_of_gt el
 have b4:IsEnum (h3.push { cls:=.type "tuple", data:=.seq #[.int i tk,x] }) e it ((i:Int)+1) old:=Heap.get?_push_of_some _ b3
 have t4:(h3.push { cls:=.type "tuple", data:=.seq #[.int i tk,x] }).get? hp.objs.size=some { cls:=.type "tuple", data:=.seq #[.int i tk,x] }:=by rw[<-sz];exact Heap.get?_push_size _ rfl
 have k4:∀b o,b≠e->b≠it->hp.get? b=some o->(h3.push { cls:=.type "tuple", data:=.seq #[.int i tk,x] }).get? b=some o:=fun b o q1 q2 q=>Heap.get?_push_of_some _ (c3.extBut _ _ q1 (c2.extBut _ _ q1 (c1.extBut _ _ q2 q)))
 have n4:ItK t (h3.push { cls:=.type "tuple", data:=.seq #[.int i tk,x] }) it l (i+1):=n1.at fun o q=>Heap.get?_push_of_some _ (c3.extBut _ _ ne.symm (c2.extBut _ _ ne.symm q))
 rw[sz]
 generalize (h3.push { cls:=.type "tuple", data:=.seq #[.int i tk,x] })=h4 at b4 t4 k4 n4
 refine wpAny_bind (m:=Builtin.SmallTypes.ownedTupleIsFree (.ref e)) ?_
 unfold Builtin.SmallTypes.ownedTupleIsFree
 refine wpAny_bind (wpAny_field (s:=⟨h4,g,d,tk+1,os⟩) b4 rfl (x:=.none) rfl (wpAny_pure ?_))
 simp only[if_true]
 refine wpAny_bind (wpAny_rule (wpAny_bind (wpAny_field (s:=⟨h4,g,d,tk+1,os⟩) b4 rfl (x:=old) rfl (wpAny_bind (wpAny_setField_rec (s:=⟨h4,g,d,tk+1,os⟩) b4 (by simp) fun h5 b5 c5=>?_)))))
 replace c5:Heap.SameBut e h4 h5:=c5
 replace b5:IsEnum h5 e it ((i:Int)+1) x:=b5
 refine wpAny_bind (m:=Builtin.SmallTypes.ownedTupleHandOut (.ref e) (.ref hp.objs.size)) ?_
 unfold Builtin.SmallTypes.ownedTupleHandOut
 refine wpAny_bind (wpAny_setField_rec (s:=⟨h5,g,d,tk+1,os⟩) b5 (by simp) fun h6 b6 c6=>?_)
 replace c6:Heap.SameBut e h5 h6:=c6
 replace b6:IsEnumOut h6 e it ((i:Int)+1) x hp.objs.size:=b6
 refine wpAny_setField_rec (s:=⟨h6,g,d,tk+1,os⟩) b6 (by simp) fun h7 b7 c7=>?_
 replace c7:Heap.SameBut e h6 h7:=c7
 replace b7:IsEnumOut h7 e it ((i:Int)+1) x hp.objs.size:=b7
 have up:∀b o,b≠e->h4.get? b=some o->h7.get? b=some o:=fun b o q1 q=>c7.extBut _ _ q1 (c6.extBut _ _ q1 (c5.extBut _ _ q1 q))
 exact wpAny_bind (wpAny_letGo (wpAny_pure ⟨_,rfl,hQ h7 b7 (n4.at fun o q=>up _ _ ne.symm q) (up _ _ ge t4) fun b o q1 q2 q=>up b o q1 (k4 b o q1 q2 q)⟩))
theorem nextE_item {t:Bool}{e it l:Addr}{i:Nat}{xs:Array Value}{x old:Value}{Q:Option Value->Shared->Prop}(he:IsEnum s.heap e it i old)(hi:ItK t s.heap it l i)(hl:SqK t s.heap l xs)(hx:xs[i]?=some x)(ne:e≠it)
  (hQ:∀h',IsEnumOut h' e it ((i:Int)+1) x s.heap.objs.size->ItK t h' it l (i+1)->h'.get? s.heap.objs.size=some { cls:=.type "tuple", data:=.seq #[.int i s.toks,x] }->(∀b o,b≠e->b≠it->s.heap.get? b=some o->h'.get? b=some o)->Q (some (.ref s.heap.objs.size)) { s with heap:=h',toks:=s.toks+1 }) :
  wpAny (model prog w) A (pyNext (.ref e)) Q E s:=by
 have ty:s.TypeIs (.ref e) "enumerate" := ⟨_,he,rfl⟩
 unfold pyNext
 exact wpAny_bind (wpAny_attempt (wpAny_callSpecial?_slot (name:=Str.ofString "__next__") ty F.slot_enumerate_next (wpAny_call_entry F.slot_enumerate_next ty F.entry_enumerate_next
  (enumK_item he hi hl hx ne fun h' a b c d=>wpAny_pure (hQ h' a b c d)) (F.args_enumerate_next_1 _))))
theorem nextE_end {t:Bool}{e it l:Addr}{i:Nat}{xs:Array Value}{old:Value}{Q:Option Value->Shared->Prop}(hh:A.handled=none)(he:IsEnum s.heap e it i old)(hi:ItK t s.heap it l i)(hl:SqK t s.heap l xs)(hx:xs[i]?=none)(hQ:∀h',Heap.ExtBut it s.heap h'->Q none { s with heap:=h' }):wpAny (model prog w) A (pyNext (.ref e)) Q E s:=by
 have ty:s.TypeIs (.ref e) "enumerate" := ⟨_,he,rfl⟩
 unfold pyNext
 refine wpAny_bind (wpAny_attempt (wpAny_callSpecial?_slot (name:=Str.ofString "__next__") ty F.slot_enumerate_next (wpAny_call_entry F.slot_enumerate_next ty F.entry_enumerate_next ?_ (F.args_enumerate_next_1 _))))
 refine wpAny_bind (m:=field (.ref e) 2) (wpAny_field he rfl (x:=.ref it) rfl (wpAny_bind (nextK_end hh hi hl hx fun h' y q1 q2=>?_)))
 obtain⟨o,ho,hc⟩:=q2
 exact wpAny_bind (wpAny_isInstance (T := "StopIteration") (b:=true) ⟨o,ho,hc⟩ isSubtype_stop (wpAny_pure (hQ _ q1)))
abbrev ek2 (t:Bool)(h:Heap)(l:Addr):Heap:=(h.push (itO t l)).push { cls:=.type "enumerate", data:=.fields #[.none,.bool false,.ref h.objs.size,rawInt 0,.none,.none] }
theorem newE (l:Addr)(xs:Array Value):Meets (Builtin.«enumerate.__new__» ⟨[.type "enumerate", .ref l],[]⟩) (fun _ R s=>SqK true s.heap l xs/\R (.ok (.ret (.ref (s.heap.push (itO true l)).objs.size))) { s with heap:=ek2 true s.heap l }) :=
 .of_wp fun prog w A R s h=>by
  obtain⟨hp,g,d,tk,os⟩:=s
  obtain⟨h1,h⟩:=h
  have sb:=sub_enumerate
  obtain⟨o,hl,hc,n,hd⟩:=id h1
  have b1:SqK true (Shared.heap ⟨hp,g,d,tk,os⟩) l xs:=h1
  wp_walk using wpAny_loadPart' hl
  refine wpAny_stack_any fun st=>wpAny_pure ?_
  split
  ·rename_i c _ _ _ _ _
   cases (c==Value.type "enumerate")
   ·wp_walk using wpAny_loadPart' hl,iterK b1
    exact⟨_,rfl,h⟩
   ·wp_walk using wpAny_loadPart' hl,iterK b1
    exact⟨_,rfl,h⟩
  ·wp_walk using wpAny_loadPart' hl,iterK b1
   exact⟨_,rfl,h⟩
theorem callE {l:Addr}{xs:Array Value}{Q:Value->Shared->Prop}(m1:SqK true s.heap l xs)(h:∀h',IsEnum h' (s.heap.objs.size+1) s.heap.objs.size 0 .none->ItK true h' s.heap.objs.size l 0->(∀c o,s.heap.get? c=some o->h'.get? c=some o)->Q (.ref (s.heap.objs.size+1)) { s with heap:=h' }):wpAny (model prog w) A (call (.type "enumerate") [.ref l]) Q E s:=by
 refine callType_new F.called_enumerate (by decide) (F.typeCall_enumerate_1 _) (F.newCall_enumerate_1 _) (fun obj=>F.args_object_init_2 obj _) F.entry_enumerate_new (newE l xs) ⟨m1,?_⟩
 have z1:(s.heap.push (itO true l)).objs.size=s.heap.objs.size+1:=Heap.size_push ..
 have g2:(ek2 true s.heap l).get? (s.heap.push (itO true l)).objs.size=some _:=Heap.get?_push_size _ rfl
 have g1:(ek2 true s.heap l).get? s.heap.objs.size=some (itO true l):=Heap.get?_push_of_some _ (Heap.get?_push_size _ rfl)
 show _/\_
 rw[z1] at g2
 rw[z1]
 exact⟨⟨_,g2,rfl⟩,h _ g2 ⟨_,g1,rfl,rfl⟩ fun c o q=>Heap.get?_push_of_some _ (Heap.get?_push_of_some _ q)⟩
end
def IteT (K:PySem.W.Frag)(a:Addr):It :=
 ⟨fun i H=>∃xs x,SqT K H a xs/\xs[i]?=some x,fun i H x H'=>∃p y,H p=none/\x=.ref p/\H'=upd H p (.tup [.int i,y])/\∀xs,SqT K H a xs->xs[i]?=some y,fun i H=>∃xs,SqT K H a xs/\xs.length<=i⟩
theorem turn_enumT {P:Program}{w:World}{K:PySem.W.Frag}{es:List Expr}{k:Nat}{pos:Pos}(a e it:Addr)(hne:e≠it):Turn P w K (.Tuple es k pos) (IteT K a) [e,it] e (fun i h=>(∃old,IsEnum h e it (i:Nat) old)/\ItK true h it a i) where
 mem:=by simp
 obj:=fun i h st b hb=>by
  obtain⟨⟨old,h1⟩,h2⟩:=st
  rcases List.mem_cons.mp hb with rfl|hb
  ·exact⟨_,h1,fun v z=>by cases z⟩
  ·have eb:b=it:=by simpa using hb
   subst eb
   obtain⟨o,e,c,d⟩:=h2
   exact⟨o,e,fun v z=>by rw[d] at z;cases z⟩
 keep:=fun i h h' st kk=>by
  obtain⟨⟨old,h1⟩,h2⟩:=st
  exact⟨⟨old,kk e (by simp) _ h1⟩,h2.at fun o q=>kk it (by simp) o q⟩
 item:=by
  intro X hP hw hK hc i pins s σ H E I hf st hg
  subst hP hw hK
  obtain⟨⟨old,h1⟩,h2⟩:=st
  obtain⟨xs,x,hq,hx⟩:=hg
  obtain⟨its,rv,p,hz⟩:=I.tuple hq
  obtain⟨u,hu,ru⟩:=rv.get hx
  refine nextE_item h1 h2 (show SqK true s.heap a its.toArray from p) (x:=u) (by simpa using hu) hne fun h' a1 a2 a3 a5=>⟨_,rfl,wpAny_letOwnedTupleGo_enum a1 fun h'' b1 b2=>?_⟩
  have ge:e≠s.heap.objs.size:=Nat.ne_of_lt (Heap.lt_size h1)
  have kk:∀b u,b ∉ [e,it]->s.heap.get? b=some u->h''.get? b=some u:=fun b u nb q=>(b2.2 b (fun z=>nb (by simp[z]))).trans (a5 b u (fun z=>nb (by simp[z])) (fun z=>nb (by simp[z])) q)
  have hT:h''.get? s.heap.objs.size=some { cls:=.type "tuple", data:=.seq #[.int i s.toks,u] }:=(b2.2 _ (Ne.symm ge)).trans a3
  have git:it≠s.heap.objs.size:=by obtain⟨o,e,_⟩:=id h2;exact Nat.ne_of_lt (Heap.lt_size e)
  refine⟨.ref s.heap.objs.size,_,I.turnedT (o:=.tup [.int i,x]) (t':=s.toks+1) hf kk (Nat.le_refl _) ⟨by show 2<=sizeLine;decide,[.int i s.toks,u],.cons ⟨_,rfl⟩ (.cons ru .nil),⟨_,hT,rfl,_,rfl⟩⟩,rfl,
   ⟨_,x,I.fresh,rfl,rfl,fun ys hy=>by rw[I.tuple_inj hy hq];exact hx⟩,⟨⟨u,by simpa using b1⟩,a2.at fun o q=>(b2.2 it (Ne.symm hne)).trans q⟩,fun b hb=>?_⟩
  have:b≠s.heap.objs.size:=by
   rcases List.mem_cons.mp hb with rfl|hb
   ·exact ge
   ·have eb:b=it:=by simpa using hb
    subst eb;exact git
  rw[Zn this];exact(hf b hb).1
 done:=by
  intro X hP hw hK hc i pins s σ H E I hf st hg
  subst hP hw hK
  obtain⟨⟨old,h1⟩,h2⟩:=st
  obtain⟨xs,hq,hx⟩:=hg
  obtain⟨its,rv,p,hz⟩:=I.tuple hq
  have hl:=rv.length
  exact nextE_end (I.ok.hd hc) h1 h2 (show SqK true s.heap a its.toArray from p) (by simp;lia) fun h' eb=>⟨rfl,I.turnedF (t':=s.toks) hf fun b u nb q=>eb b u (fun z=>nb (by simp[z])) q⟩
 self:=fun _ _ _ _ _ st h=>let ⟨⟨_,h1⟩,_⟩:=st;wpAny_pyIter_enum h1 h
section
variable {X:Cx} {E:XK} {pos p p2:Pos} {es:List Expr} {k:Nat}
def iEnT (K:PySem.W.Frag)(tl:TA):TI:=fun σ H R=>tl σ H fun vs H1=>∃a,vs=[.ref a]/\(∃xs,SqT K H1 a xs)/\R (IteT K a) H1
theorem pi_enumT {l:Expr}{tl:TA} (hg:Gl X "enumerate") (hm:X.mg "enumerate" = none) (hl:PA X [l] tl) (hs:starEach [l] X.env=[(false,eval l X.env)]:=by rfl):PI X (.Tuple es k p2) (.Call (.Name "enumerate" p) [l] [] pos) (iEnT X.K tl):=by
 intro pins s σ H R I h
 refine Call_ (ld_blt I hg hm boot_enumerate (PyProof.Rows.callWith_type1 (thn (hl pos pins s σ H _ I h) fun us s1 ⟨vs,H1,I1,r1,q1⟩=>?_) hs rfl))
 obtain⟨a,rfl,⟨xs,hq⟩,q⟩:=q1
 obtain⟨u,rfl,rx⟩:=vals1 r1
 cases rx
 obtain⟨its,rv,pl,hz⟩:=I1.tuple hq
 refine callE (show SqK true s1.heap a its.toArray from pl) fun h' e1 e2 e4=>wpAny_pyIter_enum e1 ?_
 have I2:Inv X pins σ H1 { s1 with heap:=h' }:=I1.kept (t':=s1.toks) e4
 refine⟨s1.heap.objs.size+1,[s1.heap.objs.size+1,s1.heap.objs.size],_,_,H1,rfl,I2,turn_enumT a (s1.heap.objs.size+1) s1.heap.objs.size (Nat.succ_ne_self _),⟨⟨_,by simpa using e1⟩,e2⟩,fun b hb=>?_,q⟩
 have hb:s1.heap.objs.size<=b:=by simp at hb;rcases hb with rfl|rfl<;>lia
 exact I1.fpOk hb (I1.hok.fresh hb)
def iEnumT (fs:DSt->M (List D))(sd:DSt):M (List D):=(fs sd).bind fun ds=>match ds with
 |[.tup xs]=>.ok (enumD 0 xs)
 |_=>.bad
theorem iteT_ok {K:PySem.W.Frag}{Hf H:Hp}{a:Addr}{xs:List V}{ds:List D}(h:SqT K Hf a xs)(r:Reps K Hf ds xs):ItOk K Hf H (enumD 0 ds) (IteT K a):=by
 intro i Hf1 H1 e1 e2
 have h2:=e2.seqT (e1.seqT h)
 rw[enumD_get]
 cases q:ds[i]? with
 |some d =>
  obtain⟨x,ex,rx⟩:=r.get q
  refine⟨⟨xs,x,h2,ex⟩,fun y H2 hy=>?_⟩
  obtain⟨p,y',hp,rfl,rfl,hall⟩:=hy
  have ey:=hall xs h2
  rw[ex] at ey
  cases ey
  exact⟨_,Gr.alloc e2 hp _,Gr.tup e2 hp (Reps.cons (rep_int.mpr (by simp)) (Reps.cons (rx.mono e1) Reps.nil))⟩
 |none=>exact⟨xs,h2,List.getElem?_eq_none_iff.mp (r.none_of q)⟩
theorem pid_enumT {l:Expr}{fs:DSt->M (List D)} (hg:Gl X "enumerate") (hm:X.mg "enumerate" = none) (h:PAd X E [l] fs) (hs:starEach [l] X.env=[(false,eval l X.env)]:=by rfl):PId X E (.Tuple es k p2) (.Call (.Name "enumerate" p) [l] [] pos) (iEnumT fs):=by
 obtain⟨t,pt,q⟩:=h
 refine⟨_,pi_enumT hg hm pt hs,fun H0 B Hf sd σ H R sr h=>?_⟩
 refine q H0 B Hf sd σ H _ sr (Po.bind h fun ds vs Hf1 H1 _ g1 rs h1=>?_)
 split at h1
 ·rename_i xs
  obtain⟨v,rfl,rv⟩:=reps1 rs
  obtain⟨a,ys,rfl,ha,hr⟩:=Z8 rv
  exact⟨a,rfl,⟨ys,g1.sub.seqT ha⟩,Po.ret (R:=ItOk X.K) g1.sub h1 (iteT_ok ha hr)⟩
 ·exact h1.elim
end
end DL
set_option maxHeartbeats 4000000
set_option linter.all false
set_option maxRecDepth 100000
namespace DL
open PySem PySem.Spec PyProof.Rows L2 PySem.W
section
variable {prog:Program} {w:World} {A:Around} {E:Value->Shared->Prop} {s:Shared}
theorem collectK {t:Bool}{l:Addr}{vs:List Value}{Q:List Value->Shared->Prop}(hl:SqK t s.heap l vs.toArray) (h:Q vs { s with heap:=(s.heap.push (seqObj "list" #[] 0)).update s.heap.objs.size (Obj.mapSeq (·++vs.toArray)) }) (hz:vs.length<=sizeLine) :
  wpAny (model prog w) A (collect (.ref l)) Q E s:=by
 cases t with
 |false=>exact collect_list (show s.heap.IsList l vs.toArray from hl) h hz
 |true =>
  obtain⟨o,ho,hc,n,hd⟩:=id hl
  have ho':(s.heap.push (seqObj "list" #[] 0)).get? l=some o:=Heap.get?_push_of_some _ ho
  have hn:(s.heap.push (seqObj "list" #[] 0)).get? s.heap.objs.size=some (seqObj "list" #[] 0):=Heap.get?_push_size _ rfl
  unfold collect
  refine wpAny_bind (wpAny_runValue (codeAny_builtin entry_proto_collect' (wpAny_bind (m:=newList []) (wpAny_newList (wpAny_pure ⟨Code.quiet_builtin _ (by decide +kernel),codeAny_builtin entry_list_iadd' ?_⟩)))))
  change wpAny _ _ (Builtin.List.listExtendWith _ _ _) _ _ _
  unfold Builtin.List.listExtendWith
  refine wpAny_bind (wpAny_typeOf (T := "tuple") ⟨o,ho',hc⟩ ?_)
  have ht:(Value.type "tuple" == Value.type "tuple")=true:=by rfl
  rw[if_pos (by rw[ht];simp)]
  refine wpAny_bind (listItems_at ho' hd (wpAny_bind (listItems_at hn rfl ?_)))
  rw[if_neg (by simp)]
  refine wpAny_bind (listUpdate_at hn rfl (wpAny_pure ?_) (Nat.zero_le _) (by show(#[]++vs.toArray).size<=_;simp only[Array.size_append,List.size_toArray,List.length_nil];lia))
  change wpAny _ _ (do
   let o <-load s.heap.objs.size
   match o.data with
   |.seq xs _=>pure xs.toList
   |_=>unsupported "internal:collect") Q E _
  refine wpAny_bind (wpAny_load (get?_update_seq hn _) ?_)
  change wpAny _ _ (pure ((#[]:Array Value)++vs.toArray).toList) Q E _
  have e0:((#[]:Array Value)++vs.toArray).toList=vs:=by simp
  rw[e0]
  exact wpAny_pure h
end
def headS:List V->Bool
 |.str _::_=>true
 |_=>false
def headI:List V->Bool
 |.int _::_=>true
 |_=>false
def RowsH (h:Heap):List Value->List (List V)->Prop:=Paired fun u y=>∃a us,u=Value.ref a/\IsTup h a us.toArray/\Vals y us
theorem RowsH.mono {h h':Heap}{us:List Value}{ys:List (List V)}(k:∀b o,h.get? b=some o->h'.get? b=some o)(r:RowsH h us ys):RowsH h' us ys :=
 Paired.mapP r fun u y q=>by
  obtain⟨a,vs,e,⟨o,e1,e2⟩,e3⟩:=q
  exact⟨a,vs,e,⟨o,k _ _ e1,e2⟩,e3⟩
theorem RowsH.firstS {h:Heap}:∀{us:List Value} {ys:List (List V)},RowsH h us ys->ys.all headS=true->∃fs,KatTups h us fs/\(∀v∈fs,∃x t,v=Value.str x t)/\fs.length=us.length
 |_,_,.nil,_=>⟨[],KatTups.nil,fun v hv=>(by cases hv),rfl⟩
 |_,y::ys,.cons q r,hs=>by
  rw[List.all_cons,Bool.and_eq_true] at hs
  obtain⟨fs,k1,k2,k3⟩:=RowsH.firstS r hs.2
  obtain⟨a,vs,rfl,⟨o,e1,e2,n,e3⟩,e4⟩:=q
  cases y with
  |nil=>simp[headS] at hs
  |cons z y =>
   cases z with
   |str x =>
    cases e4 with
    |cons rx rr =>
     obtain⟨t,rfl⟩:=rx
     exact⟨Value.str x t::fs,KatTups.cons e1 e2 e3 (by simp) k1,fun v hv=>by
      rcases List.mem_cons.mp hv with rfl|hv
      ·exact⟨x,t,rfl⟩
      ·exact k2 v hv,by rw[List.length_cons,List.length_cons,k3]⟩
   |_=>simp[headS] at hs
theorem RowsH.firstI {h:Heap}:∀{us:List Value} {ys:List (List V)},RowsH h us ys->ys.all headI=true->∃fs,KatTups h us fs/\(∀v∈fs,∃x t,v=Value.int x t)/\fs.length=us.length
 |_,_,.nil,_=>⟨[],KatTups.nil,fun v hv=>(by cases hv),rfl⟩
 |_,y::ys,.cons q r,hs=>by
  rw[List.all_cons,Bool.and_eq_true] at hs
  obtain⟨fs,k1,k2,k3⟩:=RowsH.firstI r hs.2
  obtain⟨a,vs,rfl,⟨o,e1,e2,n,e3⟩,e4⟩:=q
  cases y with
  |nil=>simp[headI] at hs
  |cons z y =>
   cases z with
   |int x =>
    cases e4 with
    |cons rx rr =>
     obtain⟨t,rfl⟩:=rx
     exact⟨Value.int x t::fs,KatTups.cons e1 e2 e3 (by simp) k1,fun v hv=>by
      rcases List.mem_cons.mp hv with rfl|hv
      ·exact⟨x,t,rfl⟩
      ·exact k2 v hv,by rw[List.length_cons,List.length_cons,k3]⟩
   |_=>simp[headI] at hs
theorem RowsH.get {h:Heap}:∀{us:List Value} {ys:List (List V)} {i:Nat} {y:List V},RowsH h us ys->ys[i]?=some y->∃a vs,us.getD i Value.none=Value.ref a/\IsTup h a vs.toArray/\Vals y vs
 |_,_,_,_,.nil,e=>by simp at e
 |_,_,0,_,.cons q _,e=>by
  simp at e
  subst e
  obtain⟨a,vs,rfl,e1,e2⟩:=q
  exact⟨a,vs,rfl,e1,e2⟩
 |_,_,i+1,_,.cons _ r,e=>by
  obtain⟨a,vs,e1,e2,e3⟩:=RowsH.get (i:=i) r (by simpa using e)
  exact⟨a,vs,by simpa using e1,e2,e3⟩
def RowsT (H:Hp):List V->List (List V)->Prop:=Paired fun z y=>∃a,z=V.ref a/\H a=some (.tup y)
theorem rows_h {X:Cx}{pins:List (Addr×Obj)}{σ:L2.St}{H:Hp}{s:Shared}(I:Inv X pins σ H s):∀{zs:List V} {ys:List (List V)} {us:List Value},RowsT H zs ys->Vals zs us->RowsH s.heap us ys
 |_,_,_,.nil,.nil=>.nil
 |_,_,_,.cons q r,.cons v t=>.cons (by
   obtain⟨a,rfl,e⟩:=q
   cases v
   obtain⟨its,rv,p,_⟩:=I.tuple (SqT.of e)
   exact⟨a,its,rfl,p,rv⟩) (rows_h I r t)
section
variable {X:Cx} {E:XK}
theorem RowsT.mono {H H':Hp}{xs:List V}{ys:List (List V)}(e:Same H H')(r:RowsT H xs ys):RowsT H' xs ys:=Paired.mapP r fun _ _ q=>by
 obtain⟨a,h1,h2⟩:=q
 exact⟨a,h1,e _ _ h2⟩
def flatA:D->Option V
 |.non=>some .non
 |.bl b=>some (.bl b)
 |.int i=>some (.int i)
 |.str x=>some (.str x)
 |_=>none
theorem flatA_rep {K:PySem.W.Frag}{H:Hp}{d:D}{v x:V}(e:flatA d=some v)(r:Rep K H d x):x=v/\flatV v=true:=by
 unfold flatA at e
 split at e
 ·cases e;exact⟨rep_non.mp r,rfl⟩
 ·cases e;exact⟨rep_bl.mp r,rfl⟩
 ·cases e;exact⟨rep_int.mp r,rfl⟩
 ·cases e;exact⟨rep_str.mp r,rfl⟩
 ·cases e
def gInC (cs:List V)(neg:Bool)(d:D):M D:=match flatA d with
 |some x=>.ok (.bl (if neg then !inV x cs else inV x cs))
 |none=>.bad
def tupB (K:PySem.W.Frag)(a:Addr)(cs:List V):Bool:=match K.lookup a with
 |some o=>(match o.cls,o.data with
  |.type n,.seq its _=>decide (n = "tuple")&&decide (its.size<=1000)&&decide (its.toList.map absV=cs.map some)&&cs.all flatV
  |_,_=>false)
 |none=>false
theorem vals_of_abs:∀{cs:List V} {us:List Value},us.map absV=cs.map some->cs.all flatV=true->Vals cs us
 |[],[],_,_=>.nil
 |c::cs,u::us,e,f=>by
  rw[List.map_cons,List.map_cons] at e
  injection e with e1 e2
  rw[List.all_cons,Bool.and_eq_true] at f
  refine .cons ?_ (vals_of_abs e2 f.2)
  cases u<;>simp[absV] at e1<;>subst e1<;>first|exact rfl|exact⟨_,rfl⟩
 |[],_::_,e,_=>by simp at e
 |_::_,[],e,_=>by simp at e
theorem tupB_sq {K:PySem.W.Frag}{H:Hp}{a:Addr}{cs:List V}(h:tupB K a cs=true):SqT K H a cs/\cs.all flatV=true:=by
 unfold tupB at h
 split at h
 ·rename_i o eo
  split at h
  ·rename_i n its m e1 e2
   rw[Bool.and_eq_true,Bool.and_eq_true,Bool.and_eq_true] at h
   obtain⟨⟨⟨h1,h2⟩,h3⟩,h4⟩:=h
   have h1:=of_decide_eq_true h1
   subst h1
   refine⟨.inr ⟨o,its,m,eo,e1,e2,?_,vals_of_abs (of_decide_eq_true h3) h4⟩,h4⟩
   have:=of_decide_eq_true h2
   rw[sizeLine_eq]
   lia
  ·cases h
 ·cases h
variable {e:Expr} {x:Str} {pos p2:Pos} {a:Addr} {cs:List V} {f:DSt->M D}
def tLPut (to ti tv:TE):TS:=fun D σ H=>tv σ H fun v H1=>to σ H1 fun o H2=>ti σ H2 fun i H3=>rSetL o i v H3 fun H4=>D.nx σ H4
theorem ps_lput {o i value:Expr}{to ti tv:TE}{pos':Pos}(ho:PE X o to)(hi:PE X i ti)(hv:PE X value tv)(hs:swapsWith value (some (.Subscript o i pos')) pos.line X.env=pure false):PS X (.Assign [.Subscript o i pos'] value pos) (tLPut to ti tv):=by
 intro pins s σ H D I h
 refine wpAny_Assign_Subscript (thn (hv pins s σ H _ I h) fun r s1 ⟨v,H1,I1,rv,q1⟩=>thn (ho pins s1 σ H1 _ I1 q1) fun u s2 ⟨x,H2,I2,rx,q2⟩=>thn (hi pins s2 σ H2 _ I2 q2) fun iv s3 ⟨y,H3,I3,ry,q3⟩=>?_) hs
 exact thn (set_list pins s3 σ H3 x y v u iv r _ I3 rx ry rv q3) fun _ s4 ⟨H4,I4,q4⟩=>⟨σ,H4,I4,q4⟩
theorem Reps.set {K:PySem.W.Frag}{H:Hp}{d:D}{x:V}(h:Rep K H d x):∀{ds:List D} {xs:List V} (j:Nat),Reps K H ds xs->Reps K H (ds.set j d) (xs.set j x)
 |[],_,_,r=>by rw[reps_nil.mp r];exact Reps.nil
 |_::ds,_,0,r=>by
  obtain⟨y,t,rfl,_,q⟩:=reps_cons.mp r
  exact Reps.cons h q
 |_::ds,_,j+1,r=>by
  obtain⟨y,t,rfl,z,q⟩:=reps_cons.mp r
  exact Reps.cons z (Reps.set h j q)
def sLPut (i:Nat)(fk fv:DSt->M D)(sd:DSt):M O:=match sd[i]? with
 |some (some (.ow ds))=>(fv sd).bind fun v=>(fk sd).bind fun k=>match k with
  |.int n=>(match ixN ds.length n with
   |some j=>.ok (.nx (sd.set i (some (.ow (ds.set j v)))))
   |none=>.bad)
  |_=>.bad
 |_=>.bad
theorem psd_lput (i:Nat){key value:Expr}{p1 pos':Pos}{fk fv:DSt->M D}(hk:PEd X E key fk)(hv:PEd X E value fv)(hi:X.N[i]?=some x:=by rfl)(hvis:Vis X.env.scope x:=by first|exact Or.inl rfl|exact Or.inr (Or.inl rfl)|exact Or.inr (Or.inr rfl))
  (hd:(x==("__debug__" : Str))=false:=by decide) (hcd:(x==("__classdict__" : Str))=false:=by decide) (hs:swapsWith value (some (.Subscript (.Name x p1) key pos')) pos.line X.env=pure false:=by rfl) :
  PSd X E (.Assign [.Subscript (.Name x p1) key pos'] value pos) (sLPut i fk fv):=by
 obtain⟨tk,pk,qk⟩:=hk
 obtain⟨tv,pv,qv⟩:=hv
 refine⟨_,ps_lput (Ym hi hvis hd hcd) pk pv hs,fun H0 B Hf sd σ H D sr h=>?_⟩
 unfold sLPut at h
 split at h
 ·rename_i ds et
  obtain⟨p,z1,z2,z3,xs0,z4,z5⟩:=sr.ow i _ et rfl
  refine qv H0 B Hf sd σ H _ sr (PoS.bind sr h fun dv v Hf1 H1 _ g1 sr1 rv h1=>?_)
  refine⟨_,z1,?_⟩
  refine qk H0 B Hf1 sd σ H1 _ sr1 (PoS.bind sr1 h1 fun dk y Hf2 H2 _ g2 sr2 ry h2=>?_)
  obtain⟨p',z1',_,_,xs,w4,w5⟩:=sr2.ow i _ et rfl
  rw[z1] at z1'
  cases z1'
  split at h2
  ·rename_i n _
   split at h2
   ·rename_i j ej
    have hl:=w5.length
    exact⟨p,xs,n,j,rfl,rep_int.mp ry,w4,by rw[<-hl];exact ej,h2 _ Hf2 _ (Same.refl _) (sr2.change et rfl z1 rfl ⟨_,Zo,Reps.set (Rep.mono g2.fz rv) j w5⟩)⟩
   ·exact h2.elim
  ·exact h2.elim
 ·exact h.elim
theorem po_asB {f:DSt->M D}{sd:DSt}{Hf H:Hp}{Q:Bool->Hp->Prop}(h:Po X.K E rQ Hf H (DL.tB f sd) Q):Po X.K E (rV X.K) Hf H (f sd) (fun v H'=>∃k,v=.bl k/\Q k H') :=
 Po.bind h fun d v Hf1 H1 _ g1 rv h1=>by
  unfold asB at h1
  split at h1
  ·exact⟨_,rep_bl.mp rv,Po.ret (R:=rQ) g1.sub h1 rfl⟩
  ·exact h1.elim
theorem ptd_notinC (hm:X.mg x=some (.ref a))(ht:tupB X.K a cs=true)(he:PEd X E e f)(hg:Gl X x:=by rfl) (hd:(x==("__debug__" : Str))=false:=by decide):PTd X E (.Compare e [.NotIn] [.Name x p2] pos) (DL.tB (eUn (gInC cs true) f)):=by
 obtain⟨t,p,q⟩:=he
 refine⟨_,pt_cmpR op_notIn_seq p (pe_glob (v:=.ref a) hg hm rfl hd) (by with_unfolding_all rfl),fun H0 B Hf sd σ H Q sr h=>?_⟩
 refine q H0 B Hf sd σ H _ sr (Po.bind (po_asB h) fun d v Hf1 H1 _ g1 rv h1=>?_)
 unfold gInC at h1
 split at h1
 ·rename_i y ey
  obtain⟨rfl,fy⟩:=flatA_rep ey rv
  obtain⟨hs,fc⟩:=tupB_sq (H:=H1) ht
  exact⟨a,cs,rfl,.inr hs,fy,fc,Po.ret g1.sub h1 (rep_bl.mpr rfl)⟩
 ·exact h1.elim
theorem ptd_din (i:Nat){key:Expr}{p1:Pos}{fk:DSt->M D}(hu:X.A.units+64<cLine)(hk:PEd X E key fk)(hi:X.N[i]?=some x:=by rfl)(hvis:Vis X.env.scope x:=by first|exact Or.inl rfl|exact Or.inr (Or.inl rfl)|exact Or.inr (Or.inr rfl))
  (hd:(x==("__debug__" : Str))=false:=by decide) (hcd:(x==("__classdict__" : Str))=false:=by decide):PTd X E (.Compare key [.In] [.Name x p1] pos) (DL.tB (eDIn i fk)):=by
 obtain⟨tk,pk,qk⟩:=hk
 refine⟨_,pt_cmp (pc_din (by lia) pk (Ym hi hvis hd hcd)) (by rfl),fun H0 B Hf sd σ H Q sr h=>?_⟩
 have h:=po_asB h
 unfold eDIn at h
 split at h
 case isFalse=>exact h.elim
 case isTrue hdc=>exact din_core (g:=id) qk sr hdc h
end
end DL
set_option autoImplicit false
set_option maxHeartbeats 4000000
set_option linter.all false
namespace TS
open PySem PyProof.Rows
def SrtR (κ:KeyKind)(xs:Array Keyed)(i j:Nat):Prop:=∀p q,i<=p->p<=q->q<j->κ.kle (KK κ xs p) (KK κ xs q)
def DscR (κ:KeyKind)(xs:Array Keyed)(i j:Nat):Prop:=∀p q,i<=p->p<=q->q<j->κ.kle (KK κ xs q) (KK κ xs p)
structure SB (kd:SortKind) (a₀:Array Keyed) (st:SortSt):Prop where
 perm:(arrOf st).Perm a₀
 kind:kindOf st=kd
 failed:failedOf st=none
theorem SB.size {kd:SortKind}{a₀:Array Keyed}{st:SortSt}(h:SB kd a₀ st):(arrOf st).size=a₀.size:=h.perm.size_eq
theorem SB.setArr {kd:SortKind}{a₀:Array Keyed}{st:SortSt}(h:SB kd a₀ st){xs:Array Keyed}(hp:xs.Perm (arrOf st)):SB kd a₀ (setArr st xs):=⟨hp.trans h.perm,h.kind,h.failed⟩
def LtOk (prog:Program)(w:World)(A:Around)(E:Value->Shared->Prop)(s:Shared)(κ:KeyKind)(kd:SortKind):Prop :=
 ∀(x y:Keyed) (a b:κ.α) (st:SortSt) (Q:Option Bool->SortSt->Prop),κ.keyOf x.1=some a->κ.keyOf y.1=some b->kindOf st=kd->Q (some (κ.blt a b)) st->wpS (model prog w) A E s (lt' x y) Q st
def kx (κ:KeyKind)(x:Keyed):κ.α:=(κ.keyOf x.1).getD κ.dflt
theorem KK_at {κ:KeyKind}{xs:Array Keyed}{i:Nat}{x:Keyed}(h:xs[i]?=some x):KK κ xs i=kx κ x:=by unfold KK kx;rw[h]
theorem keys_of {κ:KeyKind}{a b:Array Keyed}(h:KeysOf κ a)(hp:b.Perm a):KeysOf κ b:=fun p hm=>h p ((Array.perm_iff_toList_perm.mp hp).mem_iff.mp hm)
theorem key_at {κ:KeyKind}{xs:Array Keyed}(h:KeysOf κ xs){i:Nat}(hi:i<xs.size):∃x,xs[i]?=some x/\κ.keyOf x.1=some (KK κ xs i)/\kx κ x=KK κ xs i:=by
 have e:xs[i]?=some xs[i]:=getElem?_pos _ i hi
 obtain⟨a,ha⟩:=h xs[i] (by simp)
 refine⟨xs[i],e,?_,(KK_at e).symm⟩
 rw[KK_at e]
 unfold kx
 rw[ha];rfl
section
variable {prog:Program} {w:World} {A:Around} {E:Value->Shared->Prop} {s:Shared} {a₀:Array Keyed} {κ:KeyKind} {kd:SortKind}
theorem wp_ltAt {st:SortSt}{i j:Nat}{Q:Option Bool->SortSt->Prop}(hO:LtOk prog w A E s κ kd)(hB:SB kd a₀ st)(h0:KeysOf κ a₀)(hi:i<a₀.size)(hj:j<a₀.size)(h:Q (some (κ.blt (KK κ (arrOf st) i) (KK κ (arrOf st) j))) st):wpS (model prog w) A E s (ltAt' i j) Q st:=by
 obtain⟨x,e1,k1,_⟩:=key_at (keys_of h0 hB.perm) (i:=i) (by rw[hB.size];exact hi)
 obtain⟨y,e2,k2,_⟩:=key_at (keys_of h0 hB.perm) (i:=j) (by rw[hB.size];exact hj)
 rw[ltAt'_eq]
 refine wpS_bind (wpS_get ?_)
 change wpS _ _ _ _ (do let x <-elem' (arrOf st) i;let y <-elem' (arrOf st) j;lt' x y) Q st
 rw[elem'_eq,elem'_eq,e1,e2]
 exact wpS_bind (wpS_pure (wpS_bind (wpS_pure (hO x y _ _ st Q k1 k2 hB.kind h))))
theorem wp_rev {st:SortSt}{i j:Nat}{Q:Unit->SortSt->Prop}(h:Q () (setArr st (mirror (arrOf st) i j ((j - i) / 2)))):wpS (model prog w) A E s (reverseSlice' i j) Q st:=by
 rw[reverseSlice'_eq];exact wpS_modify h
theorem wp_bin {st:SortSt}{lo n ok:Nat}{Q:Bool->SortSt->Prop}(hO:LtOk prog w A E s κ kd)(h0:KeysOf κ a₀)(hn:lo+n<=a₀.size)(hok:ok<=n)(hB:SB kd a₀ st)(hs:SrtR κ (arrOf st) lo (lo+ok))(h:∀st',SB kd a₀ st'->pendingOf st'=pendingOf st->(∀k,k<lo->KK κ (arrOf st') k=KK κ (arrOf st) k)->SrtR κ (arrOf st') lo (lo+n)->Q true st'):wpS (model prog w) A E s (binarySort' lo n ok) Q st:=by
 rw[binarySort'_eq]
 refine wpS_bind (wpS_mono (wpS_forRange (I:=fun k c st'=>c=(none,())/\SB kd a₀ st'/\pendingOf st'=pendingOf st/\(∀k,k<lo->KK κ (arrOf st') k=KK κ (arrOf st) k)/\SrtR κ (arrOf st') lo (lo+min k n))
  (Q:=fun c st'=>c=(none,())/\SB kd a₀ st'/\pendingOf st'=pendingOf st/\(∀k,k<lo->KK κ (arrOf st') k=KK κ (arrOf st) k)/\SrtR κ (arrOf st') lo (lo+n)) ?step ?fin ?init) ?post)
 case post =>
  rintro c st' ⟨rfl,hB',hp,hk,hs'⟩
  exact wpS_pure (h st' hB' hp hk hs')
 case init =>
  refine⟨rfl,hB,rfl,fun _ _=>rfl,fun p q h1 h2 h3=>?_⟩
  by_cases h4:ok=0
  ·have:p=q:=by lia
   subst this;exact KeyOrd.kle_refl _
  ·exact hs p q h1 h2 (by lia)
 case fin =>
  rintro c st' ⟨hc,hB',hp,hk,hs'⟩
  refine⟨hc,hB',hp,hk,?_⟩
  rwa[show min (max (max ok 1) n) n=n by lia] at hs'
 case step =>
  rintro k c st' h1k hkn ⟨rfl,hB',hp,hkk,hs'⟩
  rw[show min k n=k by lia] at hs'
  have hk:lo+k<a₀.size:=by lia
  refine wpS_bind (wpS_mono (wpS_forRange (I:=fun x c st''=>st''=st'/\∃l r,c=(none,l,r)/\l<=r/\r<=k/\r - l<=k - x /\
    (∀i,i<l->κ.kle (KK κ (arrOf st') (lo+i)) (KK κ (arrOf st') (lo+k)))/\(∀i,r<=i->i<k->κ.klt (KK κ (arrOf st') (lo+k)) (KK κ (arrOf st') (lo+i))))
   (Q:=fun c st''=>st''=st'/\∃l r,c=(none,l,r)/\l<=k /\
    (∀i,i<l->κ.kle (KK κ (arrOf st') (lo+i)) (KK κ (arrOf st') (lo+k)))/\(∀i,l<=i->i<k->κ.klt (KK κ (arrOf st') (lo+k)) (KK κ (arrOf st') (lo+i)))) ?a ?b ?c0) ?d)
  case c0=>exact⟨rfl,0,k,rfl,by lia,by lia,by lia,fun i hi=>by lia,fun i h1 h2=>by lia⟩
  case b =>
   rintro c st'' ⟨rfl,l,r,rfl,le1,le2,hm,blw,abv⟩
   have:l=r:=by lia
   subst this
   exact⟨rfl,l,l,rfl,le2,blw,abv⟩
  case a =>
   rintro x c st'' _ hxk ⟨rfl,l,r,rfl,le1,le2,hm,blw,abv⟩
   dsimp only
   by_cases stop:l ≥ r
   ·rw[if_pos stop]
    have:l=r:=by lia
    subst this
    exact wpS_pure ⟨rfl,l,l,rfl,le2,blw,abv⟩
   ·rw[if_neg stop]
    refine wpS_bind (wp_ltAt hO hB' h0 hk (by lia) ?_)
    cases hs1:κ.blt (KK κ (arrOf st'') (lo+k)) (KK κ (arrOf st'') (lo+(l+r) / 2))
    case true =>
     simp only[if_true]
     refine wpS_pure ⟨rfl,l,(l+r) / 2,rfl,by lia,by lia,by lia,blw,fun i h1 h2=>?_⟩
     exact KeyOrd.klt_of_klt_of_kle hs1 (hs' _ _ (by lia) (by lia) (by lia))
    case false =>
     simp only[Bool.false_eq_true,if_false]
     refine wpS_pure ⟨rfl,(l+r) / 2+1,r,rfl,by lia,by lia,by lia,fun i h1=>?_,abv⟩
     exact KeyOrd.kle_trans (hs' (lo+i) (lo+(l+r) / 2) (by lia) (by lia) (by lia)) (show κ.kle _ _ from hs1)
  case d =>
   rintro c st'' ⟨rfl,l,r,rfl,le3,blw,abv⟩
   change wpS _ _ _ _ (do moveDown' (lo+k) (lo+l);pure (ForInStep.yield (none,()))) _ _
   rw[moveDown'_eq]
   have hks:lo+k<(arrOf st'').size:=by rw[hB'.size];exact hk
   have blw':∀i,lo<=i->i<lo+l->κ.kle (KK κ (arrOf st'') i) (KK κ (arrOf st'') (lo+k)):=fun i h1 h2=>by
    have:=blw (i - lo) (by lia)
    rwa[show lo+(i - lo)=i by lia] at this
   have abv':∀i,lo+l<=i->i<lo+k->κ.klt (KK κ (arrOf st'') (lo+k)) (KK κ (arrOf st'') i):=fun i h1 h2=>by
    have:=abv (i - lo) (by lia) (by lia)
    rwa[show lo+(i - lo)=i by lia] at this
   refine wpS_bind (wpS_modify (wpS_pure ⟨rfl,hB'.setArr (bubble_perm _ _ _),hp,fun j hj=>?_,?_⟩))
   ·refine Eq.trans ?_ (hkk j hj)
    change KK κ (bubble (arrOf st'') (lo+k) (lo+k - (lo+l))) j=_
    rw[KK_bubble hks (by lia),if_neg (by lia),if_neg (by lia)]
   ·rw[show min (k+1) n=k+1 by lia]
    intro p q hp1 hpq hq
    change κ.kle (KK κ (bubble (arrOf st'') (lo+k) (lo+k - (lo+l))) p) (KK κ (bubble (arrOf st'') (lo+k) (lo+k - (lo+l))) q)
    rw[KK_bubble hks (by lia),KK_bubble hks (by lia),show lo+k - (lo+k - (lo+l))=lo+l by lia]
    repeat' split
    all_goals first
     |(exfalso;lia)
     |exact KeyOrd.kle_refl _
     |exact blw' _ (by lia) (by lia)
     |exact KeyOrd.kle_of_klt (abv' _ (by lia) (by lia))
     |exact hs' _ _ (by lia) (by lia) (by lia)
end
end TS
set_option autoImplicit false
set_option maxHeartbeats 4000000
set_option linter.all false
namespace TS
open PySem PyProof.Rows
section
variable {prog:Program} {w:World} {A:Around} {E:Value->Shared->Prop} {s:Shared} {a₀:Array Keyed} {κ:KeyKind} {kd:SortKind}
theorem wp_rule {tag:String}{Q:Unit->SortSt->Prop}{st:SortSt}(h:Q () st):wpS (model prog w) A E s (liftM (rule tag):StateT SortSt Sem Unit) Q st :=
 wpS_lift (wpAny_rule ⟨rfl,h⟩)
theorem SrtR.more {xs:Array Keyed}{lo n:Nat}(h:SrtR κ xs lo (lo+n))(hn:1<=n)(e:κ.kle (KK κ xs (lo+n - 1)) (KK κ xs (lo+n))):SrtR κ xs lo (lo+(n+1)):=fun p q h1 h2 h3=>by
 by_cases hq:q<lo+n
 ·exact h p q h1 h2 hq
 ·have:q=lo+n:=by lia
  subst this
  by_cases hp:p=lo+n
  ·subst hp;exact κ.irrefl _
  ·exact KeyOrd.kle_trans (h p (lo+n - 1) h1 (by lia) (by lia)) e
theorem DscR.more {xs:Array Keyed}{lo n:Nat}(h:DscR κ xs lo (lo+n))(hn:1<=n)(e:κ.kle (KK κ xs (lo+n)) (KK κ xs (lo+n - 1))):DscR κ xs lo (lo+(n+1)):=fun p q h1 h2 h3=>by
 by_cases hq:q<lo+n
 ·exact h p q h1 h2 hq
 ·have:q=lo+n:=by lia
  subst this
  by_cases hp:p=lo+n
  ·subst hp;exact κ.irrefl _
  ·exact KeyOrd.kle_trans e (h p (lo+n - 1) h1 (by lia) (by lia))
theorem SrtR.one {xs:Array Keyed}{lo:Nat}:SrtR κ xs lo (lo+1):=fun p q h1 h2 h3=>by
 have:p=q:=by lia
 subst this;exact κ.irrefl _
theorem dsc_rev {xs:Array Keyed}{lo n:Nat}(hn:lo+n<=xs.size)(h:DscR κ xs lo (lo+n)):SrtR κ (mirror xs lo (lo+n) ((lo+n - lo) / 2)) lo (lo+n):=fun p q h1 h2 h3=>by
 rw[KK_mirror hn,KK_mirror hn,if_pos ⟨by lia,by lia⟩,if_pos ⟨by lia,by lia⟩]
 exact h _ _ (by lia) (by lia) (by lia)
theorem srt_rev {xs:Array Keyed}{lo n:Nat}(hn:lo+n<=xs.size)(h:SrtR κ xs lo (lo+n)):DscR κ (mirror xs lo (lo+n) ((lo+n - lo) / 2)) lo (lo+n):=fun p q h1 h2 h3=>by
 rw[KK_mirror hn,KK_mirror hn,if_pos ⟨by lia,by lia⟩,if_pos ⟨by lia,by lia⟩]
 exact h _ _ (by lia) (by lia) (by lia)
theorem pre_rev {xs:Array Keyed}{lo i j k:Nat}(hn:j<=xs.size)(hi:lo<=i)(hk:k<lo):KK κ (mirror xs i j ((j - i) / 2)) k=KK κ xs k:=by
 rw[KK_mirror hn,if_neg (by lia)]
abbrev Keeps (κ:KeyKind)(lo:Nat)(st st':SortSt):Prop:=pendingOf st'=pendingOf st/\∀k,k<lo->KK κ (arrOf st') k=KK κ (arrOf st) k
theorem Keeps.rev {lo i j:Nat}{st st':SortSt}(h:Keeps κ lo st st')(hn:j<=(arrOf st').size)(hi:lo<=i):Keeps κ lo st (setArr st' (mirror (arrOf st') i j ((j - i) / 2))) :=
 ⟨h.1,fun k hk=>(pre_rev hn hi hk).trans (h.2 k hk)⟩
theorem conv_ {α:Type}{m m':StateT SortSt Sem α}{Q:α->SortSt->Prop}{st:SortSt}(h:wpS (model prog w) A E s m Q st)(e:m=m'):wpS (model prog w) A E s m' Q st:=e▸h
theorem wp_count {st:SortSt}{lo nrem:Nat}{Q:Option Nat->SortSt->Prop}(hO:LtOk prog w A E s κ kd)(h0:KeysOf κ a₀)(hn:lo+nrem<=a₀.size)(h1:1<=nrem)(hB:SB kd a₀ st)(h:∀n st',SB kd a₀ st'->Keeps κ lo st st'->1<=n->n<=nrem->SrtR κ (arrOf st') lo (lo+n)->Q (some n) st'):wpS (model prog w) A E s (countRun' lo nrem) Q st:=by
 rw[countRun'_eq]
 have asc:∀(m:Nat) (st1:SortSt) (Q1:Option (Option Nat)×Nat->SortSt->Prop),SB kd a₀ st1->1<=m->m<=nrem->SrtR κ (arrOf st1) lo (lo+m) ->
   (∀n,m<=n->n<=nrem->SrtR κ (arrOf st1) lo (lo+n)->(n=nrem\/κ.klt (KK κ (arrOf st1) (lo+n)) (KK κ (arrOf st1) (lo+n - 1)))->Q1 (none,n) st1) ->
   wpS (model prog w) A E s (forIn [m:nrem] ((none,m):Option (Option Nat)×Nat) fun _ r=>do
    let __do_lift <-ltAt' (lo+r.snd) (lo+r.snd - 1)
    match __do_lift with
    |some smaller=>if smaller=true then pure (ForInStep.done (none,r.snd)) else pure (ForInStep.yield (none,r.snd+1))
    |_=>pure (ForInStep.done (some none,r.snd))) Q1 st1:=by
  intro m st1 Q1 hB1 hm hm2 hs hq
  refine wpS_forRange (I:=fun x c st'=>st'=st1/\c=(none,x)/\SrtR κ (arrOf st1) lo (lo+x)) ?_ ?_ ⟨rfl,rfl,hs⟩
  ·rintro x c st' hx1 hx2 ⟨rfl,rfl,hs'⟩
   dsimp only
   refine wpS_bind (wp_ltAt hO hB1 h0 (by lia) (by lia) ?_)
   cases e:κ.blt (KK κ (arrOf st') (lo+x)) (KK κ (arrOf st') (lo+x - 1)) with
   |true=>exact wpS_pure (hq x hx1 (by lia) hs' (.inr e))
   |false=>exact wpS_pure ⟨rfl,rfl,hs'.more (by lia) e⟩
  ·rintro c st' ⟨rfl,rfl,hs'⟩
   rw[show max m nrem=nrem by lia] at hs' ⊢
   exact hq nrem hm2 (Nat.le_refl _) hs' (.inl rfl)
 refine wpS_bind (asc 1 st _ hB (Nat.le_refl _) h1 SrtR.one fun n n1 n2 hs hd=>?_)
 dsimp only
 by_cases hz:n=nrem
 ·rw[if_pos (by simpa using hz)]
  exact wpS_pure (h n st hB ⟨rfl,fun _ _=>rfl⟩ n1 n2 hs)
 rw[if_neg (by simpa using hz)]
 have hd:κ.klt (KK κ (arrOf st) (lo+n)) (KK κ (arrOf st) (lo+n - 1)):=hd.resolve_left hz
 have fin:∀(m:Nat) (st1:SortSt),SB kd a₀ st1->Keeps κ lo st st1->1<=m->m<=nrem->DscR κ (arrOf st1) lo (lo+m) ->
   wpS (model prog w) A E s (do
    reverseSlice' lo (lo+m)
    let r <-forIn [m:nrem] ((none,m):Option (Option Nat)×Nat) fun _ r=>do
     let v <-ltAt' (lo+r.snd) (lo+r.snd - 1)
     match v with
     |some smaller=>if smaller=true then pure (ForInStep.done (none,r.snd)) else pure (ForInStep.yield (none,r.snd+1))
     |_=>pure (ForInStep.done (some none,r.snd))
    match r.fst with
    |some r=>pure r
    |none=>pure (some r.snd)) Q st1:=by
  intro m st1 hB1 hK m1 m2 hds
  have hz1:lo+m<=(arrOf st1).size:=by rw[hB1.size];lia
  refine wpS_bind (wp_rev (wpS_bind (asc m _ _ (hB1.setArr (mirror_perm _ _ _ _)) m1 m2 (dsc_rev hz1 hds) fun k k1 k2 hk _=>wpS_pure (h k _ (hB1.setArr (mirror_perm _ _ _ _)) (hK.rev hz1 (Nat.le_refl _)) (by lia) k2 hk))))
 have rest:∀st1:SortSt,SB kd a₀ st1->Keeps κ lo st st1->DscR κ (arrOf st1) lo (lo+(n+1)) ->
   wpS (model prog w) A E s (do
    let _ <-(liftM (rule "list.sort.descending-run"):StateT SortSt Sem Unit)
    let r <-forIn [n+1:nrem] ((none,n+1,0):Option (Option Nat)×Nat×Nat) fun _ r=>do
     let v <-ltAt' (lo+r.snd.fst) (lo+r.snd.fst - 1)
     match v with
     |some smaller =>
      if smaller=true then
       if r.snd.snd > 0 then do
        reverseSlice' (lo+r.snd.fst - (r.snd.snd+1)) (lo+r.snd.fst)
        pure (ForInStep.yield (none,r.snd.fst+1,0))
       else pure (ForInStep.yield (none,r.snd.fst+1,0))
      else do
       let v <-ltAt' (lo+r.snd.fst - 1) (lo+r.snd.fst)
       match v with
       |some larger=>if larger=true then pure (ForInStep.done (none,r.snd.fst,r.snd.snd)) else pure (ForInStep.yield (none,r.snd.fst+1,r.snd.snd+1))
       |_=>pure (ForInStep.done (some none,r.snd.fst,r.snd.snd))
     |_=>pure (ForInStep.done (some none,r.snd.fst,r.snd.snd))
    match r.fst with
    |some r=>pure r
    |none =>
     if r.snd.snd > 0 then do
      reverseSlice' (lo+r.snd.fst - (r.snd.snd+1)) (lo+r.snd.fst)
      reverseSlice' lo (lo+r.snd.fst)
      let r <-forIn [r.snd.fst:nrem] ((none,r.snd.fst):Option (Option Nat)×Nat) fun _ r=>do
       let v <-ltAt' (lo+r.snd) (lo+r.snd - 1)
       match v with
       |some smaller=>if smaller=true then pure (ForInStep.done (none,r.snd)) else pure (ForInStep.yield (none,r.snd+1))
       |_=>pure (ForInStep.done (some none,r.snd))
      match r.fst with
      |some r=>pure r
      |none=>pure (some r.snd)
     else do
      reverseSlice' lo (lo+r.snd.fst)
      let r <-forIn [r.snd.fst:nrem] ((none,r.snd.fst):Option (Option Nat)×Nat) fun _ r=>do
       let v <-ltAt' (lo+r.snd) (lo+r.snd - 1)
       match v with
       |some smaller=>if smaller=true then pure (ForInStep.done (none,r.snd)) else pure (ForInStep.yield (none,r.snd+1))
       |_=>pure (ForInStep.done (some none,r.snd))
      match r.fst with
      |some r=>pure r
      |none=>pure (some r.snd)) Q st1:=by
  intro st1 hB1 hK1 hd1
  have same:∀(st2:SortSt) (m q:Nat),lo+m<=(arrOf st2).size->q+1<=m->(∀i,lo+m - (q+1)<=i->i<lo+m->KK κ (arrOf st2) i=KK κ (arrOf st2) (lo+m - 1))->∀k,
    KK κ (mirror (arrOf st2) (lo+m - (q+1)) (lo+m) ((lo+m - (lo+m - (q+1))) / 2)) k=KK κ (arrOf st2) k:=fun st2 m q a1 a2 a3 k=>KK_mirror_equal a1 a3 k
  refine wpS_bind (wp_rule (wpS_bind (wpS_mono (wpS_forRange (I:=fun x c st2=>∃q,c=(none,x,q)/\SB kd a₀ st2/\Keeps κ lo st st2/\DscR κ (arrOf st2) lo (lo+x)/\q+1<=x /\
    (∀i,lo+x - (q+1)<=i->i<lo+x->KK κ (arrOf st2) i=KK κ (arrOf st2) (lo+x - 1)))
   (Q:=fun c st2=>∃x q,n+1<=x/\x<=nrem/\c=(none,x,q)/\SB kd a₀ st2/\Keeps κ lo st st2/\DscR κ (arrOf st2) lo (lo+x)/\q+1<=x /\
    (∀i,lo+x - (q+1)<=i->i<lo+x->KK κ (arrOf st2) i=KK κ (arrOf st2) (lo+x - 1))) ?turn ?done ⟨0,rfl,hB1,hK1,hd1,by lia,fun i i1 i2=>by congr 1;lia⟩) ?next)))
  case done =>
   rintro c st2 ⟨q,rfl,b1,b2,b3,b4,b5⟩
   rw[show max (n+1) nrem=nrem by lia] at b3 b4 b5 ⊢
   exact⟨nrem,q,by lia,Nat.le_refl _,rfl,b1,b2,b3,b4,b5⟩
  case turn =>
   rintro x c st2 x1 x2 ⟨q,rfl,b1,b2,b3,b4,b5⟩
   dsimp only
   have z1:lo+x<=(arrOf st2).size:=by rw[b1.size];lia
   refine wpS_bind (wp_ltAt hO b1 h0 (by lia) (by lia) ?_)
   cases e:κ.blt (KK κ (arrOf st2) (lo+x)) (KK κ (arrOf st2) (lo+x - 1)) with
   |true =>
    dsimp only
    rw[if_pos rfl]
    by_cases hq:q > 0
    ·rw[if_pos hq]
     have hsame:=same st2 x q z1 b4 b5
     refine wpS_bind (wp_rev (wpS_pure ⟨0,rfl,b1.setArr (mirror_perm _ _ _ _),b2.rev z1 (by lia),?_,by lia,fun i i1 i2=>by congr 1;lia⟩))
     intro p r r1 r2 r3
     refine Eq.subst (motive:=fun z=>κ.kle z _) (hsame r).symm (Eq.subst (motive:=fun z=>κ.kle _ z) (hsame p).symm ?_)
     exact b3.more (by lia) (KeyOrd.kle_of_klt e) p r r1 r2 r3
    ·rw[if_neg hq]
     exact wpS_pure ⟨0,rfl,b1,b2,b3.more (by lia) (KeyOrd.kle_of_klt e),by lia,fun i i1 i2=>by congr 1;lia⟩
   |false =>
    dsimp only
    rw[if_neg (by decide)]
    refine wpS_bind (wp_ltAt hO b1 h0 (by lia) (by lia) ?_)
    cases e2:κ.blt (KK κ (arrOf st2) (lo+x - 1)) (KK κ (arrOf st2) (lo+x)) with
    |true=>exact wpS_pure ⟨x,q,x1,by lia,rfl,b1,b2,b3,b4,b5⟩
    |false =>
     have ee:KK κ (arrOf st2) (lo+x)=KK κ (arrOf st2) (lo+x - 1):=κ.total _ _ e e2
     refine wpS_pure ⟨q+1,rfl,b1,b2,b3.more (by lia) e2,by lia,fun i i1 i2=>?_⟩
     rw[show lo+(x+1) - 1=lo+x by lia]
     by_cases hi:i=lo+x
     ·rw[hi]
     ·rw[ee];exact b5 i (by lia) (by lia)
  case next =>
   rintro c st2 ⟨x,q,x1,x2,rfl,b1,b2,b3,b4,b5⟩
   dsimp only
   have z1:lo+x<=(arrOf st2).size:=by rw[b1.size];lia
   by_cases hq:q > 0
   ·rw[if_pos hq]
    have hsame:=same st2 x q z1 b4 b5
    refine wpS_bind (wp_rev (fin x _ (b1.setArr (mirror_perm _ _ _ _)) (b2.rev z1 (by lia)) (by lia) x2 ?_))
    intro p r r1 r2 r3
    refine Eq.subst (motive:=fun z=>κ.kle z _) (hsame r).symm (Eq.subst (motive:=fun z=>κ.kle _ z) (hsame p).symm ?_)
    exact b3 p r r1 r2 r3
   ·rw[if_neg hq]
    exact fin x st2 b1 b2 (by lia) x2 b3
 by_cases hg:n > 1
 ·rw[if_pos hg]
  have z1:lo+n<=(arrOf st).size:=by rw[hB.size];lia
  refine wpS_bind (wp_ltAt hO hB h0 (by lia) (by lia) ?_)
  cases e:κ.blt (KK κ (arrOf st) lo) (KK κ (arrOf st) (lo+n - 1)) with
  |true=>exact wpS_pure (h n st hB ⟨rfl,fun _ _=>rfl⟩ n1 n2 hs)
  |false =>
   dsimp only
   rw[if_neg (by decide)]
   refine wpS_bind (wp_rev (conv_ (rest _ (hB.setArr (mirror_perm _ _ _ _)) (Keeps.rev ⟨rfl,fun _ _=>rfl⟩ z1 (Nat.le_refl _)) ?_) (by
    congr 1
    funext _u
    congr 1
    funext r
    obtain⟨a,b,c⟩:=r
    cases a with
    |some a=>rfl
    |none =>
     dsimp only
     split
     ·congr 1
      funext _v
      congr 1
      funext _v
      congr 1
      funext r
      obtain⟨a,b⟩:=r
      cases a<;>rfl
     ·congr 1
      funext _v
      congr 1
      funext r
      obtain⟨a,b⟩:=r
      cases a<;>rfl)))
   refine(srt_rev z1 hs).more (by lia) ?_
   change κ.kle (KK κ (mirror (arrOf st) lo (lo+n) ((lo+n - lo) / 2)) (lo+n)) (KK κ (mirror (arrOf st) lo (lo+n) ((lo+n - lo) / 2)) (lo+n - 1))
   rw[KK_mirror z1,KK_mirror z1,if_neg (by lia),if_pos ⟨by lia,by lia⟩,show lo+(lo+n) - 1 - (lo+n - 1)=lo by lia]
   exact KeyOrd.kle_trans (KeyOrd.kle_of_klt hd) e
 ·rw[if_neg hg]
  have en:n=1:=by lia
  subst en
  refine conv_ (rest st hB ⟨rfl,fun _ _=>rfl⟩ ?_) (by
    congr 1
    funext _u
    congr 1
    funext r
    obtain⟨a,b,c⟩:=r
    cases a with
    |some a=>rfl
    |none =>
     dsimp only
     split
     ·congr 1
      funext _v
      congr 1
      funext _v
      congr 1
      funext r
      obtain⟨a,b⟩:=r
      cases a<;>rfl
     ·congr 1
      funext _v
      congr 1
      funext r
      obtain⟨a,b⟩:=r
      cases a<;>rfl)
  refine DscR.more (fun p q p1 p2 p3=>?_) (by lia) (KeyOrd.kle_of_klt hd)
  have:p=q:=by lia
  subst this;exact κ.irrefl _
end
end TS
set_option autoImplicit false
set_option maxHeartbeats 4000000
set_option linter.all false
namespace TS
open PySem PyProof.Rows
def gallop':Bool->Keyed->Array Keyed->Nat->Nat->Nat->StateT SortSt Sem (Option Nat):=sortPriv% PySem.Builtin.gallop
section
variable {prog:Program} {w:World} {A:Around} {E:Value->Shared->Prop} {s:Shared} {a₀:Array Keyed} {κ:KeyKind} {kd:SortKind}
theorem Z6 {arr:Array Keyed}{i:Nat}{x:Keyed}{Q:Keyed->SortSt->Prop}{st:SortSt}(h:arr[i]?=some x)(q:Q x st):wpS (model prog w) A E s (elem' arr i) Q st:=by
 rw[elem'_eq,h]
 exact wpS_pure q
def bey (κ:KeyKind)(left:Bool)(k:κ.α)(arr:Array Keyed)(base i:Nat):Bool:=if left then κ.blt (KK κ arr (base+i)) k else !κ.blt k (KK κ arr (base+i))
theorem gal_bin {P:Nat->Bool}{n:Nat}{st:SortSt}{Q:Option Nat->SortSt->Prop}{f:Nat->Option (Option Nat)×Nat×Nat->StateT SortSt Sem (ForInStep (Option (Option Nat)×Nat×Nat))}{K:Option (Option Nat)×Nat×Nat->StateT SortSt Sem (Option Nat)}(f1:∀x l h,l ≥ h->f x (none,l,h)=pure (ForInStep.done (none,l,h)))(f2:∀x l h,¬l ≥ h->∃(m:StateT SortSt Sem (Option Bool)) (K1:Option Bool->StateT SortSt Sem (ForInStep (Option (Option Nat)×Nat×Nat))),f x (none,l,h)=m>>=K1 /\
   (h<=n->∀Q:Option Bool->SortSt->Prop,Q (some (P (l+(h - l) / 2))) st->wpS (model prog w) A E s m Q st)/\K1 (some true)=pure (ForInStep.yield (none,l+(h - l) / 2+1,h))/\K1 (some false)=pure (ForInStep.yield (none,l,l+(h - l) / 2)))(hK:∀l h,K (none,l,h)=pure (some h))(mono:∀i j,i<=j->j<n->P j=true->P i=true)(hq:∀r,r<=n->(∀i,i<r->P i=true)->(∀i,r<=i->i<n->P i=false)->Q (some r) st){l h:Nat}(hl:l<=h)(hh:h<=n)(p1:∀i,i<l->P i=true)(p2:∀i,h<=i->i<n->P i=false) :
  wpS (model prog w) A E s (forIn [0:n] (none,l,h) f>>=K) Q st:=by
 refine wpS_bind (wpS_mono (wpS_forRange (I:=fun x c st'=>st'=st/\∃l h,c=(none,l,h)/\l<=h/\h<=n/\h - l<=n - x/\(∀i,i<l->P i=true)/\(∀i,h<=i->i<n->P i=false))
  (Q:=fun c st'=>st'=st/\∃l h,c=(none,l,h)/\l=h/\h<=n/\(∀i,i<l->P i=true)/\(∀i,h<=i->i<n->P i=false)) ?_ ?_ ⟨rfl,l,h,rfl,hl,hh,by lia,p1,p2⟩) ?_)
 ·rintro x c st' _ hx ⟨rfl,l,h,rfl,a1,a2,a3,a4,a5⟩
  by_cases hs:l ≥ h
  ·rw[f1 x l h hs]
   exact wpS_pure ⟨rfl,l,h,rfl,by lia,a2,a4,a5⟩
  ·obtain⟨m,K1,e,hm,k1,k2⟩:=f2 x l h hs
   rw[e]
   refine wpS_bind (hm a2 _ ?_)
   cases z:P (l+(h - l) / 2) with
   |true =>
    rw[k1]
    exact wpS_pure ⟨rfl,_,_,rfl,by lia,a2,by lia,fun i hi=>mono i _ (by lia) (by lia) z,a5⟩
   |false =>
    rw[k2]
    refine wpS_pure ⟨rfl,_,_,rfl,by lia,by lia,by lia,a4,fun i i1 i2=>?_⟩
    cases z2:P i with
    |false=>rfl
    |true=>rw[mono _ i i1 i2 z2] at z;cases z
 ·rintro c st' ⟨rfl,l,h,rfl,a1,a2,a3,a4,a5⟩
  exact⟨rfl,l,h,rfl,by lia,a2,a4,a5⟩
 ·rintro c st' ⟨rfl,l,h,rfl,rfl,a2,a4,a5⟩
  rw[hK]
  exact wpS_pure (hq l a2 a4 a5)
theorem wp_gal {st:SortSt}{left:Bool}{key:Keyed}{k:κ.α}{arr:Array Keyed}{base n hint:Nat}{Q:Option Nat->SortSt->Prop}(hO:LtOk prog w A E s κ kd)(hk:kindOf st=kd)(h0:KeysOf κ arr)(kk:κ.keyOf key.1=some k)(hn:base+n<=arr.size)(hh:hint<n)(mono:SrtR κ arr base (base+n))(hq:∀r,r<=n->(∀i,i<r->bey κ left k arr base i=true)->(∀i,r<=i->i<n->bey κ left k arr base i=false)->Q (some r) st):wpS (model prog w) A E s (gallop' left key arr base n hint) Q st:=by
 have mono:∀i j,i<=j->j<n->bey κ left k arr base j=true->bey κ left k arr base i=true:=fun i j i1 i2 e=>by
  have hs:=mono (base+i) (base+j) (by lia) (by lia) (by lia)
  unfold bey at e ⊢
  cases left with
  |true=>exact KeyOrd.klt_of_kle_of_klt hs e
  |false =>
   simp only[Bool.false_eq_true,if_false,Bool.not_eq_true'] at e ⊢
   exact KeyOrd.kle_trans (O:=κ.toKeyOrd) hs e
 have ask:∀i,i<n->∀Q:Option Bool->SortSt->Prop,Q (some (bey κ left k arr base i)) st->wpS (model prog w) A E s (do
   let x <-elem' arr (base+i)
   if left then lt' x key else return (<-lt' key x).map (!·)) Q st:=fun i hi Q q=>by
  obtain⟨x,e1,e2,_⟩:=key_at h0 (i:=base+i) (by lia)
  refine wpS_bind (Z6 e1 ?_)
  unfold bey at q
  cases left with
  |true=>exact hO x key _ _ st Q e2 kk hk q
  |false=>exact wpS_bind (hO key x _ _ st _ kk e2 hk (wpS_pure q))
 unfold gallop'
 refine wpS_bind (ask hint hh _ ?_)
 cases z:bey κ left k arr base hint with
 |true =>
  dsimp only
  rw[if_pos rfl]
  refine wpS_bind (wpS_mono (wpS_forRange (I:=fun x c st'=>st'=st/\∃a b,c=(none,a,b)/\a<b/\x+1<=b/\a<n - hint/\bey κ left k arr base (hint+a)=true)
   (Q:=fun c st'=>st'=st/\∃a b,c=(none,a,b)/\a<b/\a<n - hint/\bey κ left k arr base (hint+a)=true/\(b<n - hint->bey κ left k arr base (hint+b)=false)) ?_ ?_ ⟨rfl,0,1,rfl,by lia,by lia,by lia,z⟩) ?_)
  ·rintro x c st' _ hx ⟨rfl,a,b,rfl,a1,a2,a3,a4⟩
   dsimp only
   by_cases hs:b ≥ n - hint
   ·rw[if_pos hs]
    exact wpS_pure ⟨rfl,a,b,rfl,a1,a3,a4,fun q=>by lia⟩
   ·rw[if_neg hs]
    refine wpS_bind (ask (hint+b) (by lia) _ ?_)
    cases z2:bey κ left k arr base (hint+b) with
    |true=>exact wpS_pure ⟨rfl,b,2*b+1,rfl,by lia,by lia,by lia,z2⟩
    |false=>exact wpS_pure ⟨rfl,a,b,rfl,a1,a3,a4,fun _=>z2⟩
  ·rintro c st' ⟨rfl,a,b,rfl,a1,a2,a3,a4⟩
   exact⟨rfl,a,b,rfl,a1,a3,a4,fun q=>by lia⟩
  ·rintro c st' ⟨rfl,a,b,rfl,a1,a3,a4,a5⟩
   dsimp only
   refine gal_bin (P:=bey κ left k arr base) (n:=n) (fun x l h hs=>if_pos hs) (fun x l h hs=>⟨_,_,if_neg hs,fun hx Q hQ=>ask _ (by lia) Q hQ,rfl,rfl⟩) (fun l h=>rfl) mono hq (by lia) (by lia) (fun i hi=>mono i (hint+a) (by lia) (by lia) a4) fun i i1 i2=>?_
   cases z2:bey κ left k arr base i with
   |false=>rfl
   |true =>
    by_cases hb:b<n - hint
    ·have:=mono (hint+b) i (by lia) i2 z2
     rw[a5 hb] at this
     cases this
    ·lia
 |false =>
  dsimp only
  rw[if_neg (by decide)]
  refine wpS_bind (wpS_mono (wpS_forRange (I:=fun x c st'=>st'=st/\∃a b,c=(none,a,b)/\a<b/\x+1<=b/\a<=hint/\bey κ left k arr base (hint - a)=false)
   (Q:=fun c st'=>st'=st/\∃a b,c=(none,a,b)/\a<b/\a<=hint/\bey κ left k arr base (hint - a)=false/\(b<=hint->bey κ left k arr base (hint - b)=true)) ?_ ?_ ⟨rfl,0,1,rfl,by lia,by lia,by lia,z⟩) ?_)
  ·rintro x c st' _ hx ⟨rfl,a,b,rfl,a1,a2,a3,a4⟩
   dsimp only
   by_cases hs:b ≥ hint+1
   ·rw[if_pos hs]
    exact wpS_pure ⟨rfl,a,b,rfl,a1,a3,a4,fun q=>by lia⟩
   ·rw[if_neg hs]
    refine wpS_bind (ask (hint - b) (by lia) _ ?_)
    cases z2:bey κ left k arr base (hint - b) with
    |true=>exact wpS_pure ⟨rfl,a,b,rfl,a1,a3,a4,fun _=>z2⟩
    |false=>exact wpS_pure ⟨rfl,b,2*b+1,rfl,by lia,by lia,by lia,z2⟩
  ·rintro c st' ⟨rfl,a,b,rfl,a1,a2,a3,a4⟩
   exact⟨rfl,a,b,rfl,a1,a3,a4,fun q=>by lia⟩
  ·rintro c st' ⟨rfl,a,b,rfl,a1,a3,a4,a5⟩
   dsimp only
   refine gal_bin (P:=bey κ left k arr base) (n:=n) (fun x l h hs=>if_pos hs) (fun x l h hs=>⟨_,_,if_neg hs,fun hx Q hQ=>ask _ (by lia) Q hQ,rfl,rfl⟩) (fun l h=>rfl) mono hq (by lia) (by lia) (fun i hi=>?_) fun i i1 i2=>?_
   ·exact mono i (hint - b) (by lia) (by lia) (a5 (by lia))
   ·cases z2:bey κ left k arr base i with
    |false=>rfl
    |true =>
     have:=mono (hint - a) i (by lia) i2 z2
     rw[a4] at this
     cases this
end
end TS
set_option autoImplicit false
set_option maxHeartbeats 4000000
set_option linter.all false
namespace TS
open PySem PyProof.Rows
section
variable {κ:KeyKind}
abbrev lek (κ:KeyKind)(x y:Keyed):Prop:=κ.kle (kx κ x) (kx κ y)
def SL (κ:KeyKind)(l:List Keyed):Prop:=l.Pairwise (lek κ)
theorem sl_app {l m:List Keyed}:SL κ (l++m)↔SL κ l/\SL κ m/\∀x∈l,∀y∈m,lek κ x y:=List.pairwise_append
structure ML (κ:KeyKind) (all out as bs:List Keyed):Prop where
 perm:(out++as++bs).Perm all
 sa:SL κ (out++as)
 sb:SL κ (out++bs)
theorem ML.pushB {all out as bs:List Keyed}{y:Keyed}(h:ML κ all out as (y::bs))(hy:∀x∈as,lek κ y x):ML κ all (out++[y]) as bs:=by
 obtain⟨a1,a2,a3⟩:=sl_app.mp h.sa
 obtain⟨b1,b2,b3⟩:=sl_app.mp h.sb
 refine⟨List.Perm.trans ?_ h.perm,sl_app.mpr ⟨sl_app.mpr ⟨a1,List.pairwise_singleton _ _,fun x hx z hz=>b3 x hx z (by simp at hz;simp[hz])⟩,a2,fun x hx z hz=>?_⟩,by rw[List.append_assoc];exact h.sb⟩
 ·rw[List.append_assoc,List.append_assoc,List.append_assoc]
  refine List.Perm.append_left out ?_
  exact(List.perm_middle (l₁:=as) (l₂:=bs) (a:=y)).symm
 ·rcases List.mem_append.mp hx with hx|hx
  ·exact a3 x hx z hz
  ·have:x=y:=by simpa using hx
   subst this;exact hy z hz
theorem ML.swap {all out as bs:List Keyed}(h:ML κ all out as bs):ML κ all out bs as:=by
 refine⟨List.Perm.trans ?_ h.perm,h.sb,h.sa⟩
 rw[List.append_assoc,List.append_assoc]
 exact List.Perm.append_left out List.perm_append_comm
theorem ML.pushA {all out as bs:List Keyed}{y:Keyed}(h:ML κ all out (y::as) bs)(hy:∀x∈bs,lek κ y x):ML κ all (out++[y]) as bs:=(h.swap.pushB hy).swap
theorem ML.extB {all:List Keyed}:∀{cs out as bs:List Keyed},ML κ all out as (cs++bs)->(∀y∈cs,∀x∈as,lek κ y x)->ML κ all (out++cs) as bs
 |[],out,as,bs,h,_=>by rw[List.append_nil];exact h
 |c::cs,out,as,bs,h,hy=>by
  have:=ML.extB (cs:=cs) (h.pushB (fun x hx=>hy c (by simp) x hx)) fun y y1=>hy y (by simp[y1])
  rwa[List.append_assoc,List.singleton_append] at this
theorem ML.extA {all cs out as bs:List Keyed}(h:ML κ all out (cs++as) bs)(hy:∀y∈cs,∀x∈bs,lek κ y x):ML κ all (out++cs) as bs:=(h.swap.extB hy).swap
def Dn (κ:KeyKind)(all r:List Keyed):Prop:=r.Perm all/\SL κ r
theorem ML.endB {all out as:List Keyed}(h:ML κ all out as []):Dn κ all (out++as):=⟨by simpa using h.perm,h.sa⟩
theorem ML.endA {all out bs:List Keyed}(h:ML κ all out [] bs):Dn κ all (out++bs):=⟨by simpa using h.perm,h.sb⟩
theorem ML.endS {all out as bs:List Keyed}(h:ML κ all out as bs)(hy:∀y∈bs,∀x∈as,lek κ y x):Dn κ all (out++bs++as):=by
 obtain⟨a1,a2,a3⟩:=sl_app.mp h.sa
 obtain⟨b1,b2,b3⟩:=sl_app.mp h.sb
 refine⟨h.swap.perm,sl_app.mpr ⟨h.sb,a2,fun x hx z hz=>?_⟩⟩
 rcases List.mem_append.mp hx with hx|hx
 ·exact a3 x hx z hz
 ·exact hy x hx z hz
structure MH (κ:KeyKind) (all as bs out:List Keyed):Prop where
 perm:(as++bs++out).Perm all
 sa:SL κ (as++out)
 sb:SL κ (bs++out)
theorem MH.swap {all out as bs:List Keyed}(h:MH κ all as bs out):MH κ all bs as out :=
 ⟨List.Perm.trans (List.Perm.append_right out List.perm_append_comm) h.perm,h.sb,h.sa⟩
theorem MH.pushA {all out as bs:List Keyed}{x:Keyed}(h:MH κ all (as++[x]) bs out)(hx:∀y∈bs,lek κ y x):MH κ all as bs (x::out):=by
 obtain⟨a1,a2,a3⟩:=sl_app.mp h.sa
 obtain⟨b1,b2,b3⟩:=sl_app.mp h.sb
 refine⟨List.Perm.trans ?_ h.perm,by have:=h.sa;rwa[List.append_assoc,List.singleton_append] at this,sl_app.mpr ⟨b1,List.pairwise_cons.mpr ⟨fun z hz=>a3 x (by simp) z hz,b2⟩,fun y hy z hz=>?_⟩⟩
 ·rw[List.append_assoc,List.append_assoc,List.append_assoc,List.singleton_append]
  refine List.Perm.append_left as ?_
  exact(List.perm_middle (l₁:=bs) (l₂:=out) (a:=x))
 ·rcases List.mem_cons.mp hz with rfl|hz
  ·exact hx y hy
  ·exact b3 y hy z hz
theorem MH.pushB {all out as bs:List Keyed}{x:Keyed}(h:MH κ all as (bs++[x]) out)(hx:∀y∈as,lek κ y x):MH κ all as bs (x::out):=(h.swap.pushA hx).swap
theorem MH.extA {all:List Keyed}{bs:List Keyed}:∀{cs:List Keyed} {as out:List Keyed},MH κ all (as++cs) bs out->(∀x∈cs,∀y∈bs,lek κ y x)->MH κ all as bs (cs++out)
 |[],as,out,h,_=>by simpa using h
 |c::cs,as,out,h,hx=>by
  have h2:MH κ all ((as++[c])++cs) bs out:=by rw[List.append_assoc,List.singleton_append];exact h
  exact(MH.extA h2 fun x x1=>hx x (by simp[x1])).pushA fun y hy=>hx c (by simp) y hy
theorem MH.extB {all as bs cs out:List Keyed}(h:MH κ all as (bs++cs) out)(hx:∀x∈cs,∀y∈as,lek κ y x):MH κ all as bs (cs++out):=(h.swap.extA hx).swap
theorem MH.endA {all out bs:List Keyed}(h:MH κ all [] bs out):Dn κ all (bs++out):=⟨by simpa using h.perm,h.sb⟩
theorem MH.endB {all out as:List Keyed}(h:MH κ all as [] out):Dn κ all (as++out):=⟨by simpa using h.perm,h.sa⟩
theorem MH.endS {all out as bs:List Keyed}(h:MH κ all as bs out)(hy:∀y∈bs,∀x∈as,lek κ y x):Dn κ all (bs++as++out):=by
 obtain⟨a1,a2,a3⟩:=sl_app.mp h.sa
 obtain⟨b1,b2,b3⟩:=sl_app.mp h.sb
 refine⟨h.swap.perm,sl_app.mpr ⟨sl_app.mpr ⟨b1,a1,hy⟩,a2,fun x hx z hz=>?_⟩⟩
 rcases List.mem_append.mp hx with hx|hx
 ·exact b3 x hx z hz
 ·exact a3 x hx z hz
theorem drop_at {xs:Array Keyed}{i:Nat}{x:Keyed}(h:xs[i]?=some x):xs.toList.drop i=x::xs.toList.drop (i+1):=by
 obtain⟨h1,h2⟩:=Array.getElem?_eq_some_iff.mp h
 rw[List.drop_eq_getElem_cons (by simpa using h1)]
 simp[h2]
theorem take_at {xs:Array Keyed}{i:Nat}{x:Keyed}(h:xs[i]?=some x):xs.toList.take (i+1)=xs.toList.take i++[x]:=by
 obtain⟨h1,h2⟩:=Array.getElem?_eq_some_iff.mp h
 rw[List.take_succ_eq_append_getElem (by simpa using h1)]
 simp[h2]
theorem drop_cut {xs:Array Keyed}{i k:Nat}(h:i+k<=xs.size):xs.toList.drop i=(xs.extract i (i+k)).toList++xs.toList.drop (i+k):=by
 rw[Array.toList_extract,List.extract_eq_drop_take,show i+k - i=k by lia]
 conv=>lhs;rw[<-List.take_append_drop k (xs.toList.drop i),List.drop_drop]
theorem take_cut {xs:Array Keyed}{i n:Nat}(h:i<=n)(hn:n<=xs.size):xs.toList.take n=xs.toList.take i++(xs.extract i n).toList:=by
 rw[Array.toList_extract,List.extract_eq_drop_take]
 conv=>lhs;rw[<-List.take_append_drop i (xs.toList.take n)]
 rw[List.take_take,Nat.min_eq_left h,List.drop_take]
theorem ext_drop {xs:Array Keyed}{i:Nat}:(xs.extract i xs.size).toList=xs.toList.drop i:=by
 rw[Array.toList_extract,List.extract_eq_drop_take,<-Array.length_toList,<-List.length_drop,List.take_length]
theorem ext_take {xs:Array Keyed}{n:Nat}:(xs.extract 0 n).toList=xs.toList.take n:=by
 rw[Array.toList_extract,List.extract_eq_drop_take];simp
theorem mem_drop {xs:Array Keyed}{i:Nat}{x:Keyed}(h:x∈xs.toList.drop i):∃j,i<=j/\j<xs.size/\KK κ xs j=kx κ x:=by
 obtain⟨j,hj,e⟩:=List.mem_iff_getElem.mp h
 rw[List.length_drop,Array.length_toList] at hj
 refine⟨i+j,by lia,by lia,?_⟩
 rw[List.getElem_drop] at e
 exact KK_at (by rw[Array.getElem?_eq_some_iff];exact⟨by lia,by simpa using e⟩)
theorem mem_ext {xs:Array Keyed}{i n:Nat}{x:Keyed}(hn:n<=xs.size)(h:x∈(xs.extract i n).toList):∃j,i<=j/\j<n/\KK κ xs j=kx κ x:=by
 rw[Array.toList_extract,List.extract_eq_drop_take] at h
 obtain⟨j,hj,e⟩:=List.mem_iff_getElem.mp h
 rw[List.length_take,List.length_drop,Array.length_toList] at hj
 refine⟨i+j,by lia,by lia,?_⟩
 rw[List.getElem_take,List.getElem_drop] at e
 exact KK_at (by rw[Array.getElem?_eq_some_iff];exact⟨by lia,by simpa using e⟩)
theorem mem_take {xs:Array Keyed}{n:Nat}{x:Keyed}(hn:n<=xs.size)(h:x∈xs.toList.take n):∃j,j<n/\KK κ xs j=kx κ x:=by
 obtain⟨j,hj,e⟩:=List.mem_iff_getElem.mp h
 rw[List.length_take,Array.length_toList] at hj
 refine⟨j,by lia,?_⟩
 rw[List.getElem_take] at e
 exact KK_at (by rw[Array.getElem?_eq_some_iff];exact⟨by lia,by simpa using e⟩)
theorem sl_of_srt {xs:Array Keyed}(h:SrtR κ xs 0 xs.size):SL κ xs.toList:=by
 refine List.pairwise_iff_getElem.mpr fun i j hi hj hij=>?_
 rw[Array.length_toList] at hi hj
 have:=h i j (Nat.zero_le _) (by lia) hj
 rw[KK_at (x:=xs[i]) (getElem?_pos xs i hi),KK_at (x:=xs[j]) (getElem?_pos xs j hj)] at this
 simpa using this
end
end TS
set_option autoImplicit false
set_option maxHeartbeats 4000000
set_option linter.all false
namespace TS
open PySem PyProof.Rows
def mergeLo':Array Keyed->Array Keyed->StateT SortSt Sem (Array Keyed):=sortPriv% PySem.Builtin.mergeLo
def mergeHi':Array Keyed->Array Keyed->StateT SortSt Sem (Array Keyed):=sortPriv% PySem.Builtin.mergeHi
def Sm (st st':SortSt):Prop:=arrOf st'=arrOf st/\pendingOf st'=pendingOf st/\kindOf st'=kindOf st/\failedOf st'=failedOf st
theorem Sm.refl (st:SortSt):Sm st st:=⟨rfl,rfl,rfl,rfl⟩
section
variable {κ:KeyKind} {a b out:Array Keyed} {all:List Keyed} {ia ib k:Nat}
abbrev MLa (κ:KeyKind)(a b:Array Keyed)(out:Array Keyed)(ia ib:Nat):Prop:=ML κ (a.toList++b.toList) out.toList (a.toList.drop ia) (b.toList.drop ib)
theorem MLa.dn (h:MLa κ a b out ia ib)(e:ib=b.size\/ia=a.size):Dn κ (a.toList++b.toList) (out++a.extract ia a.size++b.extract ib b.size).toList:=by
 rw[Array.toList_append,Array.toList_append,ext_drop,ext_drop]
 rcases e with rfl|rfl
 ·have e1:b.toList.drop b.size=[]:=by simp
  rw[MLa,e1] at h
  rw[e1,List.append_nil]
  exact h.endB
 ·have e1:a.toList.drop a.size=[]:=by simp
  rw[MLa,e1] at h
  rw[e1,List.append_nil]
  exact h.endA
theorem MLa.last (h:MLa κ a b out ia ib)(e:ia+1=a.size)(hl:∀j,j<b.size->κ.kle (KK κ b j) (KK κ a (a.size - 1))):Dn κ (a.toList++b.toList) (out++b.extract ib b.size++a.extract ia a.size).toList:=by
 rw[Array.toList_append,Array.toList_append,ext_drop,ext_drop]
 refine h.endS fun y hy x hx=>?_
 obtain⟨j,j1,j2,j3⟩:=mem_drop (κ:=κ) hy
 obtain⟨i,i1,i2,i3⟩:=mem_drop (κ:=κ) hx
 unfold lek
 rw[<-j3,<-i3,show i=a.size - 1 by lia]
 exact hl j j2
theorem MLa.pB {y:Keyed}(h:MLa κ a b out ia ib)(sa:SrtR κ a 0 a.size)(e:b[ib]?=some y)(hl:κ.kle (KK κ b ib) (KK κ a ia)):MLa κ a b (out.push y) ia (ib+1):=by
 unfold MLa at h ⊢
 rw[drop_at e] at h
 rw[Array.toList_push]
 refine h.pushB fun x hx=>?_
 obtain⟨i,i1,i2,i3⟩:=mem_drop (κ:=κ) hx
 unfold lek
 rw[<-i3,<-KK_at e]
 exact KeyOrd.kle_trans hl (sa ia i (Nat.zero_le _) i1 i2)
theorem MLa.pA {x:Keyed}(h:MLa κ a b out ia ib)(sb:SrtR κ b 0 b.size)(e:a[ia]?=some x)(hl:κ.kle (KK κ a ia) (KK κ b ib)):MLa κ a b (out.push x) (ia+1) ib:=by
 unfold MLa at h ⊢
 rw[drop_at e] at h
 rw[Array.toList_push]
 refine h.pushA fun y hy=>?_
 obtain⟨i,i1,i2,i3⟩:=mem_drop (κ:=κ) hy
 unfold lek
 rw[<-i3,<-KK_at e]
 exact KeyOrd.kle_trans hl (sb ib i (Nat.zero_le _) i1 i2)
theorem MLa.eA (h:MLa κ a b out ia ib)(sb:SrtR κ b 0 b.size)(hk:ia+k<=a.size)(hl:∀i,i<k->κ.kle (KK κ a (ia+i)) (KK κ b ib)):MLa κ a b (out++a.extract ia (ia+k)) (ia+k) ib:=by
 unfold MLa at h ⊢
 rw[drop_cut hk] at h
 rw[Array.toList_append]
 refine h.extA fun x hx y hy=>?_
 obtain⟨i,i1,i2,i3⟩:=mem_ext (κ:=κ) hk hx
 obtain⟨j,j1,j2,j3⟩:=mem_drop (κ:=κ) hy
 unfold lek
 rw[<-i3,<-j3]
 have:=hl (i - ia) (by lia)
 rw[show ia+(i - ia)=i by lia] at this
 exact KeyOrd.kle_trans this (sb ib j (Nat.zero_le _) j1 j2)
theorem MLa.eB (h:MLa κ a b out ia ib)(sa:SrtR κ a 0 a.size)(hk:ib+k<=b.size)(hl:∀i,i<k->κ.kle (KK κ b (ib+i)) (KK κ a ia)):MLa κ a b (out++b.extract ib (ib+k)) ia (ib+k):=by
 unfold MLa at h ⊢
 rw[drop_cut hk] at h
 rw[Array.toList_append]
 refine h.extB fun y hy x hx=>?_
 obtain⟨j,j1,j2,j3⟩:=mem_ext (κ:=κ) hk hy
 obtain⟨i,i1,i2,i3⟩:=mem_drop (κ:=κ) hx
 unfold lek
 rw[<-i3,<-j3]
 have:=hl (j - ib) (by lia)
 rw[show ib+(j - ib)=j by lia] at this
 exact KeyOrd.kle_trans this (sa ia i (Nat.zero_le _) i1 i2)
end
section
variable {prog:Program} {w:World} {A:Around} {E:Value->Shared->Prop} {s:Shared} {κ:KeyKind} {kd:SortKind}
def setMin':Nat->StateT SortSt Sem Unit:=sortPriv% PySem.Builtin.setMinGallop
theorem wp_min {n:Nat}{st:SortSt}{Q:Unit->SortSt->Prop}(h:∀st',Sm st st'->Q () st'):wpS (model prog w) A E s (setMin' n) Q st :=
 wpS_modify (f:=fun z=>SortSt.mk' (kindOf z) (arrOf z) (pendingOf z) n (failedOf z)) (h _ ⟨rfl,rfl,rfl,rfl⟩)
theorem Sm.trans {a b c:SortSt}(h:Sm a b)(g:Sm b c):Sm a c:=⟨g.1.trans h.1,g.2.1.trans h.2.1,g.2.2.1.trans h.2.2.1,g.2.2.2.trans h.2.2.2⟩
section
variable {β:Type} {R:β->SortSt->Prop} {st:SortSt} {K1:Option Nat->StateT SortSt Sem β} {a b o:Array Keyed} {la lb:Nat}
theorem lo_one (hO:LtOk prog w A E s κ kd)(hk:kindOf st=kd)(ka:KeysOf κ a)(kb:KeysOf κ b)(sa:SrtR κ a 0 a.size)(sb:SrtR κ b 0 b.size)(m:MLa κ a b o la lb)(h1:la+1<a.size)(h2:lb<b.size)(d1:∀k,k > 0->la+k+1=a.size->MLa κ a b (o++a.extract la (la+k)) (la+k) lb->wpS (model prog w) A E s (K1 (some k)) R st)(d2:∀k,k > 0->la+k=a.size->MLa κ a b (o++a.extract la (la+k)) (la+k) lb->wpS (model prog w) A E s (K1 (some k)) R st)(d3:∀k y,k > 0->la+k+1<a.size->b[lb]?=some y->MLa κ a b ((o++a.extract la (la+k)).push y) (la+k) (lb+1)->wpS (model prog w) A E s (K1 (some k)) R st)(d4:∀y,b[lb]?=some y->MLa κ a b (o.push y) la (lb+1)->wpS (model prog w) A E s (K1 (some 0)) R st) :
  wpS (model prog w) A E s (elem' b lb>>=fun y=>gallop' false y a la (a.size - la) 0>>=K1) R st:=by
 obtain⟨y,ey,ky,_⟩:=key_at kb h2
 refine wpS_bind (Z6 ey (wpS_bind (wp_gal hO hk ka ky (by lia) (by lia) (fun p q p1 p2 p3=>sa p q (Nat.zero_le _) p2 (by lia)) fun k k1 k2 k3=>?_)))
 have k2':∀i,i<k->κ.kle (KK κ a (la+i)) (KK κ b lb):=fun i hi=>by simpa[bey,KeyOrd.kle] using k2 i hi
 have k3':k<a.size - la->κ.kle (KK κ b lb) (KK κ a (la+k)):=fun hi=>by
  have:=k3 k (Nat.le_refl _) hi
  exact KeyOrd.kle_of_klt (by simpa[bey,KeyOrd.klt] using this)
 by_cases c0:k > 0
 ·have m2:=m.eA (k:=k) sb (by lia) k2'
  by_cases c1:la+k+1=a.size
  ·exact d1 k c0 c1 m2
  by_cases c2:la+k=a.size
  ·exact d2 k c0 c2 m2
  exact d3 k y c0 (by lia) ey (m2.pB sa ey (k3' (by lia)))
 ·have e:k=0:=by lia
  subst e
  exact d4 y ey (m.pB sa ey (k3' (by lia)))
theorem lo_two (hO:LtOk prog w A E s κ kd)(hk:kindOf st=kd)(ka:KeysOf κ a)(kb:KeysOf κ b)(sa:SrtR κ a 0 a.size)(sb:SrtR κ b 0 b.size)(m:MLa κ a b o la lb)(h1:la+1<a.size)(h2:lb<b.size)(d1:∀k,k > 0->lb+k=b.size->MLa κ a b (o++b.extract lb (lb+k)) la (lb+k)->wpS (model prog w) A E s (K1 (some k)) R st)(d2:∀k x,k > 0->lb+k<b.size->a[la]?=some x->MLa κ a b ((o++b.extract lb (lb+k)).push x) (la+1) (lb+k)->wpS (model prog w) A E s (K1 (some k)) R st)(d3:∀x,a[la]?=some x->MLa κ a b (o.push x) (la+1) lb->wpS (model prog w) A E s (K1 (some 0)) R st) :
  wpS (model prog w) A E s (elem' a la>>=fun x=>gallop' true x b lb (b.size - lb) 0>>=K1) R st:=by
 obtain⟨x,ex,kx',_⟩:=key_at ka (i:=la) (by lia)
 refine wpS_bind (Z6 ex (wpS_bind (wp_gal hO hk kb kx' (by lia) (by lia) (fun p q p1 p2 p3=>sb p q (Nat.zero_le _) p2 (by lia)) fun k k1 k2 k3=>?_)))
 have k2':∀i,i<k->κ.kle (KK κ b (lb+i)) (KK κ a la):=fun i hi=>KeyOrd.kle_of_klt (by simpa[bey,KeyOrd.klt] using k2 i hi)
 have k3':k<b.size - lb->κ.kle (KK κ a la) (KK κ b (lb+k)):=fun hi=>by
  have:=k3 k (Nat.le_refl _) hi
  simpa[bey,KeyOrd.kle] using this
 by_cases c0:k > 0
 ·have m2:=m.eB (k:=k) sa (by lia) k2'
  by_cases c1:lb+k=b.size
  ·exact d1 k c0 c1 m2
  exact d2 k x c0 (by lia) ex (m2.pA sb ex (k3' (by lia)))
 ·have e:k=0:=by lia
  subst e
  exact d3 x ex (m.pA sb ex (k3' (by lia)))
end
theorem wp_lo {st:SortSt}{a b:Array Keyed}{Q:Array Keyed->SortSt->Prop}(hO:LtOk prog w A E s κ kd)(hk:kindOf st=kd)(ka:KeysOf κ a)(kb:KeysOf κ b)(sa:SrtR κ a 0 a.size)(sb:SrtR κ b 0 b.size)(na:0<a.size)(nb:0<b.size)(hf:κ.klt (KK κ b 0) (KK κ a 0))(hl:∀j,j<b.size->κ.kle (KK κ b j) (KK κ a (a.size - 1)))(hq:∀r st',Dn κ (a.toList++b.toList) r.toList->Sm st st'->Q r st'):wpS (model prog w) A E s (mergeLo' a b) Q st:=by
 obtain⟨y0,e0,k0,_⟩:=key_at kb nb
 have m0:MLa κ a b #[] 0 0:=⟨by simp,by simpa using sl_of_srt sa,by simpa using sl_of_srt sb⟩
 have m1:MLa κ a b #[y0] 0 1:=m0.pB sa e0 (KeyOrd.kle_of_klt hf)
 unfold mergeLo'
 refine wpS_bind (wp_rule (wpS_bind (Z6 e0 ?_)))
 by_cases c1:1=b.size
 ·rw[if_pos (by simpa using c1)]
  exact wpS_pure (hq _ _ (m1.dn (.inl c1)) (Sm.refl _))
 rw[if_neg (by simpa using c1)]
 by_cases c2:0+1=a.size
 ·rw[if_pos (by simpa using c2)]
  exact wpS_pure (hq _ _ (m1.last c2 hl) (Sm.refl _))
 rw[if_neg (by simpa using c2)]
 refine wpS_bind (wpS_get ?_)
 refine wpS_bind (wpS_mono (wpS_forRange (I:=fun x c st1=>Sm st st1/\∃out ia ib mg,c=(none,out,ia,ib,mg)/\MLa κ a b out ia ib/\ia+1<a.size/\ib<b.size/\x<=ia+ib)
  (Q:=fun c st1=>Sm st st1/\∃r t,c=(some r,t)/\Dn κ (a.toList++b.toList) r.toList) ?_ ?_ ⟨Sm.refl _,_,_,_,_,rfl,m1,by lia,by lia,by lia⟩) ?_)
 ·rintro x c st1 _ hx ⟨hS,out,ia,ib,mg,rfl,m,g1,g2,g3⟩
  dsimp only
  have hk1:kindOf st1=kd:=hS.2.2.1.trans hk
  refine wpS_bind (wpS_mono (wpS_forRange (I:=fun x1 c st2=>st2=st1/\∃out ja jb ac bc,c=(none,out,ja,jb,ac,bc)/\MLa κ a b out ja jb/\ja+1<a.size/\jb<b.size/\ia+ib+x1<=ja+jb)
   (Q:=fun c st2=>st2=st1/\((∃r t,c=(some r,t)/\Dn κ (a.toList++b.toList) r.toList)\/∃out ja jb ac bc,c=(none,out,ja,jb,ac,bc)/\MLa κ a b out ja jb/\ja+1<a.size/\jb<b.size/\ia+ib+1<=ja+jb)) ?_ ?_ ⟨rfl,out,ia,ib,0,0,rfl,m,g1,g2,by lia⟩) ?_)
  ·rintro x1 c st2 _ hx1 ⟨rfl,o,ja,jb,ac,bc,rfl,m,h1,h2,h3⟩
   dsimp only
   obtain⟨y,ey,ky,_⟩:=key_at kb h2
   obtain⟨x',ex,kx',_⟩:=key_at ka (i:=ja) (by lia)
   refine wpS_bind (Z6 ey (wpS_bind (Z6 ex (wpS_bind (hO y x' _ _ _ _ ky kx' hk1 ?_)))))
   cases z:κ.blt (KK κ b jb) (KK κ a ja) with
   |true =>
    dsimp only
    rw[if_pos rfl]
    refine wpS_bind (Z6 ey ?_)
    have m':=m.pB sa ey (KeyOrd.kle_of_klt z)
    by_cases c1:jb+1=b.size
    ·rw[if_pos (by simpa using c1)]
     exact wpS_pure ⟨rfl,.inl ⟨_,_,rfl,m'.dn (.inl c1)⟩⟩
    ·rw[if_neg (by simpa using c1)]
     split
     ·exact wpS_pure ⟨rfl,.inr ⟨_,_,_,_,_,rfl,m',h1,by lia,by lia⟩⟩
     ·exact wpS_pure ⟨rfl,_,_,_,_,_,rfl,m',h1,by lia,by lia⟩
   |false =>
    dsimp only
    rw[if_neg (by decide)]
    refine wpS_bind (Z6 ex ?_)
    have m':=m.pA sb ex z
    by_cases c1:ja+1+1=a.size
    ·rw[if_pos (by simpa using c1)]
     exact wpS_pure ⟨rfl,.inl ⟨_,_,rfl,m'.last c1 hl⟩⟩
    ·rw[if_neg (by simpa using c1)]
     split
     ·exact wpS_pure ⟨rfl,.inr ⟨_,_,_,_,_,rfl,m',by lia,h2,by lia⟩⟩
     ·exact wpS_pure ⟨rfl,_,_,_,_,_,rfl,m',by lia,h2,by lia⟩
  ·rintro c st2 ⟨rfl,o,ja,jb,ac,bc,rfl,m,h1,h2,h3⟩
   lia
  ·rintro c st2 ⟨rfl,⟨r,t,rfl,hd⟩|⟨o,ja,jb,ac,bc,rfl,m,h1,h2,h3⟩⟩
   ·exact wpS_pure ⟨hS,r,_,rfl,hd⟩
   dsimp only
   refine wpS_bind (wp_rule (wpS_bind (wpS_mono (wpS_forRange (I:=fun x2 c st3=>Sm st st3/\∃out la lb mg ac bc,c=(none,out,la,lb,mg,ac,bc)/\MLa κ a b out la lb/\la+1<a.size/\lb<b.size/\ja+jb+x2<=la+lb)
    (Q:=fun c st3=>Sm st st3/\((∃r t,c=(some r,t)/\Dn κ (a.toList++b.toList) r.toList)\/∃out la lb mg ac bc,c=(none,out,la,lb,mg,ac,bc)/\MLa κ a b out la lb/\la+1<a.size/\lb<b.size/\ja+jb<=la+lb)) ?_ ?_ ⟨hS,o,ja,jb,_,_,_,rfl,m,h1,h2,by lia⟩) ?_)))
   ·rintro x2 c st3 _ hx2 ⟨hS3,o,la,lb,mg,ac,bc,rfl,m,h1,h2,h3⟩
    dsimp only
    rcases Nat.lt_or_ge 1 mg with cm|cm
    all_goals
     first
      |rw[if_pos (show mg > 1 by lia)]
      |rw[if_neg (show ¬mg > 1 by lia)]
     refine wpS_bind (wp_min fun st4 hS4=>?_)
     have hS4:=hS3.trans hS4
     have hk4:kindOf st4=kd:=hS4.2.2.1.trans hk
     refine lo_one hO hk4 ka kb sa sb m h1 h2 (fun k p1 p2 m1=>?_) (fun k p1 p2 m1=>?_) (fun k y p1 p2 ey m1=>?_) (fun y ey m1=>?_)
     ·dsimp only
      rw[if_pos p1,if_pos (by simpa using p2)]
      exact wpS_pure ⟨hS4,.inl ⟨_,_,rfl,m1.last p2 hl⟩⟩
     ·dsimp only
      rw[if_pos p1,if_neg (by simp;lia),if_pos (by simpa using p2)]
      exact wpS_pure ⟨hS4,.inl ⟨_,_,rfl,m1.dn (.inr p2)⟩⟩
     ·dsimp only
      rw[if_pos p1,if_neg (by simp;lia),if_neg (by simp;lia)]
      refine wpS_bind (Z6 ey ?_)
      by_cases c1:lb+1=b.size
      ·rw[if_pos (by simpa using c1)]
       exact wpS_pure ⟨hS4,.inl ⟨_,_,rfl,m1.dn (.inl c1)⟩⟩
      rw[if_neg (by simpa using c1)]
      refine lo_two hO hk4 ka kb sa sb m1 p2 (by lia) (fun k2 q1 q2 m2=>?_) (fun k2 x q1 q2 ex m2=>?_) (fun x ex m2=>?_)
      ·dsimp only
       rw[if_pos q1,if_pos (by simpa using q2)]
       exact wpS_pure ⟨hS4,.inl ⟨_,_,rfl,m2.dn (.inl q2)⟩⟩
      ·dsimp only
       rw[if_pos q1,if_neg (by simp;lia)]
       refine wpS_bind (Z6 ex ?_)
       by_cases c2:la+k+1+1=a.size
       ·rw[if_pos (by simpa using c2)]
        exact wpS_pure ⟨hS4,.inl ⟨_,_,rfl,m2.last c2 hl⟩⟩
       rw[if_neg (by simpa using c2)]
       split
       ·exact wpS_pure ⟨hS4,.inr ⟨_,_,_,_,_,_,rfl,m2,by lia,by lia,by lia⟩⟩
       ·exact wpS_pure ⟨hS4,_,_,_,_,_,_,rfl,m2,by lia,by lia,by lia⟩
      ·dsimp only
       rw[if_neg (by decide)]
       refine wpS_bind (Z6 ex ?_)
       by_cases c2:la+k+1+1=a.size
       ·rw[if_pos (by simpa using c2)]
        exact wpS_pure ⟨hS4,.inl ⟨_,_,rfl,m2.last c2 hl⟩⟩
       rw[if_neg (by simpa using c2)]
       split
       ·exact wpS_pure ⟨hS4,.inr ⟨_,_,_,_,_,_,rfl,m2,by lia,by lia,by lia⟩⟩
       ·exact wpS_pure ⟨hS4,_,_,_,_,_,_,rfl,m2,by lia,by lia,by lia⟩
     ·dsimp only
      rw[if_neg (by decide)]
      refine wpS_bind (Z6 ey ?_)
      by_cases c1:lb+1=b.size
      ·rw[if_pos (by simpa using c1)]
       exact wpS_pure ⟨hS4,.inl ⟨_,_,rfl,m1.dn (.inl c1)⟩⟩
      rw[if_neg (by simpa using c1)]
      refine lo_two hO hk4 ka kb sa sb m1 h1 (by lia) (fun k2 q1 q2 m2=>?_) (fun k2 x q1 q2 ex m2=>?_) (fun x ex m2=>?_)
      ·dsimp only
       rw[if_pos q1,if_pos (by simpa using q2)]
       exact wpS_pure ⟨hS4,.inl ⟨_,_,rfl,m2.dn (.inl q2)⟩⟩
      ·dsimp only
       rw[if_pos q1,if_neg (by simp;lia)]
       refine wpS_bind (Z6 ex ?_)
       by_cases c2:la+1+1=a.size
       ·rw[if_pos (by simpa using c2)]
        exact wpS_pure ⟨hS4,.inl ⟨_,_,rfl,m2.last c2 hl⟩⟩
       rw[if_neg (by simpa using c2)]
       split
       ·exact wpS_pure ⟨hS4,.inr ⟨_,_,_,_,_,_,rfl,m2,by lia,by lia,by lia⟩⟩
       ·exact wpS_pure ⟨hS4,_,_,_,_,_,_,rfl,m2,by lia,by lia,by lia⟩
      ·dsimp only
       rw[if_neg (by decide)]
       refine wpS_bind (Z6 ex ?_)
       by_cases c2:la+1+1=a.size
       ·rw[if_pos (by simpa using c2)]
        exact wpS_pure ⟨hS4,.inl ⟨_,_,rfl,m2.last c2 hl⟩⟩
       rw[if_neg (by simpa using c2)]
       split
       ·exact wpS_pure ⟨hS4,.inr ⟨_,_,_,_,_,_,rfl,m2,by lia,by lia,by lia⟩⟩
       ·exact wpS_pure ⟨hS4,_,_,_,_,_,_,rfl,m2,by lia,by lia,by lia⟩
   ·rintro c st3 ⟨hS3,o,la,lb,mg,ac,bc,rfl,m,h1,h2,h3⟩
    lia
   ·rintro c st3 ⟨hS3,⟨r,t,rfl,hd⟩|⟨o,la,lb,mg,ac,bc,rfl,m,h1,h2,h3⟩⟩
    ·exact wpS_pure ⟨hS3,r,_,rfl,hd⟩
    dsimp only
    refine wpS_bind (wp_min fun st4 hS4=>wpS_pure ⟨hS3.trans hS4,_,_,_,_,rfl,m,h1,h2,by lia⟩)
 ·rintro c st1 ⟨_,out,ia,ib,mg,rfl,_,g1,g2,g3⟩
  lia
 ·rintro c st1 ⟨h1,r,t,rfl,h2⟩
  exact wpS_pure (hq r st1 h2 h1)
end
end TS
set_option autoImplicit false
set_option maxHeartbeats 4000000
set_option linter.all false
namespace TS
open PySem PyProof.Rows
section
variable {κ:KeyKind} {a b out:Array Keyed} {ia ib k:Nat}
abbrev MHa (κ:KeyKind)(a b:Array Keyed)(out:Array Keyed)(ia ib:Nat):Prop:=MH κ (a.toList++b.toList) (a.toList.take ia) (b.toList.take ib) out.toList.reverse
theorem MHa.dn (h:MHa κ a b out ia ib)(e:ib=0\/ia=0):Dn κ (a.toList++b.toList) (a.extract 0 ia++b.extract 0 ib++out.reverse).toList:=by
 rw[Array.toList_append,Array.toList_append,ext_take,ext_take,Array.toList_reverse]
 rcases e with rfl|rfl
 ·rw[MHa,List.take_zero] at h
  rw[List.take_zero,List.append_nil]
  exact h.endB
 ·rw[MHa,List.take_zero] at h
  rw[List.take_zero,List.nil_append]
  exact h.endA
theorem MHa.first (h:MHa κ a b out ia ib)(ha:ia<=a.size)(hb:0<b.size)(e:ib=1)(sa:SrtR κ a 0 a.size)(hf:κ.klt (KK κ b 0) (KK κ a 0)):Dn κ (a.toList++b.toList) (b.extract 0 ib++a.extract 0 ia++out.reverse).toList:=by
 rw[Array.toList_append,Array.toList_append,ext_take,ext_take,Array.toList_reverse]
 refine h.endS fun y hy x hx=>?_
 obtain⟨j,j1,j2⟩:=mem_take (κ:=κ) (by lia) hy
 obtain⟨i,i1,i2⟩:=mem_take (κ:=κ) ha hx
 unfold lek
 rw[<-j2,<-i2,show j=0 by lia]
 exact KeyOrd.kle_trans (KeyOrd.kle_of_klt hf) (sa 0 i (Nat.zero_le _) (Nat.zero_le _) (by lia))
theorem MHa.pA {x:Keyed}(h:MHa κ a b out (ia+1) ib)(hb:ib<=b.size)(sb:SrtR κ b 0 b.size)(e:a[ia]?=some x)(hl:0<ib->κ.kle (KK κ b (ib - 1)) (KK κ a ia)):MHa κ a b (out.push x) ia ib:=by
 unfold MHa at h ⊢
 rw[take_at e] at h
 rw[Array.toList_push,List.reverse_append]
 refine h.pushA fun y hy=>?_
 obtain⟨j,j1,j2⟩:=mem_take (κ:=κ) hb hy
 unfold lek
 rw[<-j2,<-KK_at e]
 exact KeyOrd.kle_trans (sb j (ib - 1) (Nat.zero_le _) (by lia) (by lia)) (hl (by lia))
theorem MHa.pB {y:Keyed}(h:MHa κ a b out ia (ib+1))(ha:ia<=a.size)(sa:SrtR κ a 0 a.size)(e:b[ib]?=some y)(hl:0<ia->κ.kle (KK κ a (ia - 1)) (KK κ b ib)):MHa κ a b (out.push y) ia ib:=by
 unfold MHa at h ⊢
 rw[take_at e] at h
 rw[Array.toList_push,List.reverse_append]
 refine h.pushB fun x hx=>?_
 obtain⟨j,j1,j2⟩:=mem_take (κ:=κ) ha hx
 unfold lek
 rw[<-j2,<-KK_at e]
 exact KeyOrd.kle_trans (sa j (ia - 1) (Nat.zero_le _) (by lia) (by lia)) (hl (by lia))
theorem MHa.eA (h:MHa κ a b out ia ib)(hb:ib<=b.size)(hb0:0<ib)(sb:SrtR κ b 0 b.size)(hk:k<=ia)(ha:ia<=a.size)(hl:∀i,k<=i->i<ia->κ.kle (KK κ b (ib - 1)) (KK κ a i)):MHa κ a b (out++(a.extract k ia).reverse) k ib:=by
 unfold MHa at h ⊢
 rw[take_cut hk ha] at h
 rw[Array.toList_append,Array.toList_reverse,List.reverse_append,List.reverse_reverse]
 refine h.extA fun x hx y hy=>?_
 obtain⟨i,i1,i2,i3⟩:=mem_ext (κ:=κ) ha hx
 obtain⟨j,j1,j2⟩:=mem_take (κ:=κ) hb hy
 unfold lek
 rw[<-i3,<-j2]
 exact KeyOrd.kle_trans (sb j (ib - 1) (Nat.zero_le _) (by lia) (by lia)) (hl i i1 i2)
theorem MHa.eB (h:MHa κ a b out ia ib)(ha:ia<=a.size)(ha0:0<ia)(sa:SrtR κ a 0 a.size)(hk:k<=ib)(hb:ib<=b.size)(hl:∀i,k<=i->i<ib->κ.kle (KK κ a (ia - 1)) (KK κ b i)):MHa κ a b (out++(b.extract k ib).reverse) ia k:=by
 unfold MHa at h ⊢
 rw[take_cut hk hb] at h
 rw[Array.toList_append,Array.toList_reverse,List.reverse_append,List.reverse_reverse]
 refine h.extB fun y hy x hx=>?_
 obtain⟨i,i1,i2,i3⟩:=mem_ext (κ:=κ) hb hy
 obtain⟨j,j1,j2⟩:=mem_take (κ:=κ) ha hx
 unfold lek
 rw[<-i3,<-j2]
 exact KeyOrd.kle_trans (sa j (ia - 1) (Nat.zero_le _) (by lia) (by lia)) (hl i i1 i2)
end
section
variable {prog:Program} {w:World} {A:Around} {E:Value->Shared->Prop} {s:Shared} {κ:KeyKind} {kd:SortKind}
section
variable {β:Type} {R:β->SortSt->Prop} {st:SortSt} {K1:Option Nat->StateT SortSt Sem β} {a b o:Array Keyed} {la lb:Nat}
theorem hi_one (hO:LtOk prog w A E s κ kd)(hk:kindOf st=kd)(ka:KeysOf κ a)(kb:KeysOf κ b)(sa:SrtR κ a 0 a.size)(sb:SrtR κ b 0 b.size)(m:MHa κ a b o la lb)(h1:0<la)(h1':la<=a.size)(h2:1<lb)(h2':lb<=b.size)(d1:∀k,la - k > 0->k=0->MHa κ a b (o++(a.extract k la).reverse) k lb->wpS (model prog w) A E s (K1 (some k)) R st)(d2:∀k y,la - k > 0->0<k->b[lb - 1]?=some y->MHa κ a b ((o++(a.extract k la).reverse).push y) k (lb - 1)->wpS (model prog w) A E s (K1 (some k)) R st)(d3:∀y,b[lb - 1]?=some y->MHa κ a b (o.push y) la (lb - 1)->wpS (model prog w) A E s (K1 (some la)) R st) :
  wpS (model prog w) A E s (elem' b (lb - 1)>>=fun y=>gallop' false y a 0 la (la - 1)>>=K1) R st:=by
 obtain⟨y,ey,ky,_⟩:=key_at kb (i:=lb - 1) (by lia)
 refine wpS_bind (Z6 ey (wpS_bind (wp_gal hO hk ka ky (by lia) (by lia) (fun p q p1 p2 p3=>sa p q (Nat.zero_le _) p2 (by lia)) fun k k1 k2 k3=>?_)))
 have k2':∀i,i<k->κ.kle (KK κ a i) (KK κ b (lb - 1)):=fun i hi=>by simpa[bey,KeyOrd.kle] using k2 i hi
 have k3':∀i,k<=i->i<la->κ.kle (KK κ b (lb - 1)) (KK κ a i):=fun i i1 i2=>by
  have:=k3 i i1 i2
  exact KeyOrd.kle_of_klt (by simpa[bey,KeyOrd.klt] using this)
 by_cases c0:la - k > 0
 ·have m2:=m.eA (k:=k) h2' (by lia) sb (by lia) h1' k3'
  by_cases c1:k=0
  ·exact d1 k c0 c1 m2
  refine d2 k y c0 (by lia) ey (MHa.pB ?_ (by lia) sa ey fun _=>k2' (k - 1) (by lia))
  rw[show lb - 1+1=lb by lia];exact m2
 ·have e:k=la:=by lia
  subst e
  refine d3 y ey (MHa.pB ?_ (by lia) sa ey fun _=>k2' (k - 1) (by lia))
  rw[show lb - 1+1=lb by lia];exact m
theorem hi_two (hO:LtOk prog w A E s κ kd)(hk:kindOf st=kd)(ka:KeysOf κ a)(kb:KeysOf κ b)(sa:SrtR κ a 0 a.size)(sb:SrtR κ b 0 b.size)(m:MHa κ a b o la lb)(h1:0<la)(h1':la<=a.size)(h2:1<lb)(h2':lb<=b.size)(d1:∀k,lb - k > 0->k=1->MHa κ a b (o++(b.extract k lb).reverse) la k->wpS (model prog w) A E s (K1 (some k)) R st)(d2:∀k,lb - k > 0->k=0->MHa κ a b (o++(b.extract k lb).reverse) la k->wpS (model prog w) A E s (K1 (some k)) R st)(d3:∀k x,lb - k > 0->1<k->a[la - 1]?=some x->MHa κ a b ((o++(b.extract k lb).reverse).push x) (la - 1) k->wpS (model prog w) A E s (K1 (some k)) R st)(d4:∀x,a[la - 1]?=some x->MHa κ a b (o.push x) (la - 1) lb->wpS (model prog w) A E s (K1 (some lb)) R st) :
  wpS (model prog w) A E s (elem' a (la - 1)>>=fun x=>gallop' true x b 0 lb (lb - 1)>>=K1) R st:=by
 obtain⟨x,ex,kx',_⟩:=key_at ka (i:=la - 1) (by lia)
 refine wpS_bind (Z6 ex (wpS_bind (wp_gal hO hk kb kx' (by lia) (by lia) (fun p q p1 p2 p3=>sb p q (Nat.zero_le _) p2 (by lia)) fun k k1 k2 k3=>?_)))
 have k2':∀i,i<k->κ.kle (KK κ b i) (KK κ a (la - 1)):=fun i hi=>KeyOrd.kle_of_klt (by simpa[bey,KeyOrd.klt] using k2 i hi)
 have k3':∀i,k<=i->i<lb->κ.kle (KK κ a (la - 1)) (KK κ b i):=fun i i1 i2=>by
  have:=k3 i i1 i2
  simpa[bey,KeyOrd.kle] using this
 by_cases c0:lb - k > 0
 ·have m2:=m.eB (k:=k) h1' h1 sa (by lia) h2' k3'
  by_cases c1:k=1
  ·exact d1 k c0 c1 m2
  by_cases c2:k=0
  ·exact d2 k c0 c2 m2
  refine d3 k x c0 (by lia) ex (MHa.pA ?_ (by lia) sb ex fun _=>k2' (k - 1) (by lia))
  rw[show la - 1+1=la by lia];exact m2
 ·have e:k=lb:=by lia
  subst e
  refine d4 x ex (MHa.pA ?_ (by lia) sb ex fun _=>k2' (k - 1) (by lia))
  rw[show la - 1+1=la by lia];exact m
end
theorem wp_hi {st:SortSt}{a b:Array Keyed}{Q:Array Keyed->SortSt->Prop}(hO:LtOk prog w A E s κ kd)(hk:kindOf st=kd)(ka:KeysOf κ a)(kb:KeysOf κ b)(sa:SrtR κ a 0 a.size)(sb:SrtR κ b 0 b.size)(na:0<a.size)(nb:0<b.size)(hf:κ.klt (KK κ b 0) (KK κ a 0))(hl:∀j,j<b.size->κ.kle (KK κ b j) (KK κ a (a.size - 1)))(hq:∀r st',Dn κ (a.toList++b.toList) r.toList->Sm st st'->Q r st'):wpS (model prog w) A E s (mergeHi' a b) Q st:=by
 obtain⟨x0,e0,k0,_⟩:=key_at ka (i:=a.size - 1) (by lia)
 have m0:MHa κ a b #[] a.size b.size:=by
  have ta:a.toList.take a.size=a.toList:=by rw[<-Array.length_toList,List.take_length]
  have tb:b.toList.take b.size=b.toList:=by rw[<-Array.length_toList,List.take_length]
  have es:(#[]:Array Keyed).toList.reverse=[]:=rfl
  refine⟨?_,?_,?_⟩
  ·rw[ta,tb,es,List.append_nil]
  ·rw[ta,es,List.append_nil];exact sl_of_srt sa
  ·rw[tb,es,List.append_nil];exact sl_of_srt sb
 have m1:MHa κ a b #[x0] (a.size - 1) b.size:=MHa.pA (out:=#[]) (by rw[show a.size - 1+1=a.size by lia];exact m0) (Nat.le_refl _) sb e0 fun _=>hl _ (by lia)
 unfold mergeHi'
 refine wpS_bind (wp_rule (wpS_bind (Z6 e0 ?_)))
 by_cases c1:a.size - 1=0
 ·rw[if_pos (by simpa using c1)]
  exact wpS_pure (hq _ _ (m1.dn (.inr c1)) (Sm.refl _))
 rw[if_neg (by simpa using c1)]
 by_cases c2:b.size=1
 ·rw[if_pos (by simpa using c2)]
  exact wpS_pure (hq _ _ (m1.first (by lia) nb c2 sa hf) (Sm.refl _))
 rw[if_neg (by simpa using c2)]
 refine wpS_bind (wpS_get ?_)
 refine wpS_bind (wpS_mono (wpS_forRange (I:=fun x c st1=>Sm st st1/\∃ia ib out mg,c=(none,ia,ib,out,mg)/\MHa κ a b out ia ib/\0<ia/\ia<=a.size/\1<ib/\ib<=b.size/\x+(ia+ib)<=a.size+b.size)
  (Q:=fun c st1=>Sm st st1/\∃r t,c=(some r,t)/\Dn κ (a.toList++b.toList) r.toList) ?_ ?_ ⟨Sm.refl _,_,_,_,_,rfl,m1,by lia,by lia,by lia,by lia,by lia⟩) ?_)
 ·rintro x c st1 _ hx ⟨hS,ia,ib,out,mg,rfl,m,g1,g1',g2,g2',g3⟩
  dsimp only
  have hk1:kindOf st1=kd:=hS.2.2.1.trans hk
  refine wpS_bind (wpS_mono (wpS_forRange (I:=fun x1 c st2=>st2=st1/\∃ja jb out ac bc,c=(none,ja,jb,out,ac,bc)/\MHa κ a b out ja jb/\0<ja/\ja<=a.size/\1<jb/\jb<=b.size/\x1+(ja+jb)<=ia+ib)
   (Q:=fun c st2=>st2=st1/\((∃r t,c=(some r,t)/\Dn κ (a.toList++b.toList) r.toList)\/∃ja jb out ac bc,c=(none,ja,jb,out,ac,bc)/\MHa κ a b out ja jb/\0<ja/\ja<=a.size/\1<jb/\jb<=b.size/\1+(ja+jb)<=ia+ib)) ?_ ?_ ⟨rfl,ia,ib,out,0,0,rfl,m,g1,g1',g2,g2',by lia⟩) ?_)
  ·rintro x1 c st2 _ hx1 ⟨rfl,ja,jb,o,ac,bc,rfl,m,h1,h1',h2,h2',h3⟩
   dsimp only
   obtain⟨y,ey,ky,_⟩:=key_at kb (i:=jb - 1) (by lia)
   obtain⟨x',ex,kx',_⟩:=key_at ka (i:=ja - 1) (by lia)
   refine wpS_bind (Z6 ey (wpS_bind (Z6 ex (wpS_bind (hO y x' _ _ _ _ ky kx' hk1 ?_)))))
   cases z:κ.blt (KK κ b (jb - 1)) (KK κ a (ja - 1)) with
   |true =>
    dsimp only
    rw[if_pos rfl]
    refine wpS_bind (Z6 ex ?_)
    have m':MHa κ a b (o.push x') (ja - 1) jb:=MHa.pA (by rw[show ja - 1+1=ja by lia];exact m) h2' sb ex fun _=>KeyOrd.kle_of_klt z
    by_cases c1:ja - 1=0
    ·rw[if_pos (by simpa using c1)]
     exact wpS_pure ⟨rfl,.inl ⟨_,_,rfl,m'.dn (.inr c1)⟩⟩
    ·rw[if_neg (by simpa using c1)]
     split
     ·exact wpS_pure ⟨rfl,.inr ⟨_,_,_,_,_,rfl,m',by lia,by lia,h2,h2',by lia⟩⟩
     ·exact wpS_pure ⟨rfl,_,_,_,_,_,rfl,m',by lia,by lia,h2,h2',by lia⟩
   |false =>
    dsimp only
    rw[if_neg (by decide)]
    refine wpS_bind (Z6 ey ?_)
    have m':MHa κ a b (o.push y) ja (jb - 1):=MHa.pB (by rw[show jb - 1+1=jb by lia];exact m) h1' sa ey fun _=>z
    by_cases c1:jb - 1=1
    ·rw[if_pos (by simpa using c1)]
     exact wpS_pure ⟨rfl,.inl ⟨_,_,rfl,m'.first h1' nb c1 sa hf⟩⟩
    ·rw[if_neg (by simpa using c1)]
     split
     ·exact wpS_pure ⟨rfl,.inr ⟨_,_,_,_,_,rfl,m',h1,h1',by lia,by lia,by lia⟩⟩
     ·exact wpS_pure ⟨rfl,_,_,_,_,_,rfl,m',h1,h1',by lia,by lia,by lia⟩
  ·rintro c st2 ⟨rfl,ja,jb,o,ac,bc,rfl,m,h1,h1',h2,h2',h3⟩
   lia
  ·rintro c st2 ⟨rfl,⟨r,t,rfl,hd⟩|⟨ja,jb,o,ac,bc,rfl,m,h1,h1',h2,h2',h3⟩⟩
   ·exact wpS_pure ⟨hS,r,_,rfl,hd⟩
   dsimp only
   refine wpS_bind (wp_rule (wpS_bind (wpS_mono (wpS_forRange (I:=fun x2 c st3=>Sm st st3/\∃la lb out mg ac bc,c=(none,la,lb,out,mg,ac,bc)/\MHa κ a b out la lb/\0<la/\la<=a.size/\1<lb/\lb<=b.size/\x2+(la+lb)<=ja+jb)
    (Q:=fun c st3=>Sm st st3/\((∃r t,c=(some r,t)/\Dn κ (a.toList++b.toList) r.toList)\/∃la lb out mg ac bc,c=(none,la,lb,out,mg,ac,bc)/\MHa κ a b out la lb/\0<la/\la<=a.size/\1<lb/\lb<=b.size/\la+lb<=ja+jb)) ?_ ?_ ⟨hS,ja,jb,o,_,_,_,rfl,m,h1,h1',h2,h2',by lia⟩) ?_)))
   ·rintro x2 c st3 _ hx2 ⟨hS3,la,lb,o,mg,ac,bc,rfl,m,h1,h1',h2,h2',h3⟩
    dsimp only
    rcases Nat.lt_or_ge 1 mg with cm|cm
    all_goals
     first
      |rw[if_pos (show mg > 1 by lia)]
      |rw[if_neg (show ¬mg > 1 by lia)]
     refine wpS_bind (wp_min fun st4 hS4=>?_)
     have hS4:=hS3.trans hS4
     have hk4:kindOf st4=kd:=hS4.2.2.1.trans hk
     refine hi_one hO hk4 ka kb sa sb m h1 h1' h2 h2' (fun k p1 p2 m1=>?_) (fun k y p1 p2 ey m1=>?_) (fun y ey m1=>?_)
     ·dsimp only
      rw[if_pos p1,if_pos (by simpa using p2)]
      exact wpS_pure ⟨hS4,.inl ⟨_,_,rfl,m1.dn (.inr p2)⟩⟩
     ·dsimp only
      rw[if_pos p1,if_neg (by simp;lia)]
      refine wpS_bind (Z6 ey ?_)
      by_cases c1:lb - 1=1
      ·rw[if_pos (by simpa using c1)]
       exact wpS_pure ⟨hS4,.inl ⟨_,_,rfl,m1.first (by lia) nb c1 sa hf⟩⟩
      rw[if_neg (by simpa using c1)]
      refine hi_two hO hk4 ka kb sa sb m1 p2 (by lia) (by lia) (by lia) (fun k2 q1 q2 m2=>?_) (fun k2 q1 q2 m2=>?_) (fun k2 x q1 q2 ex m2=>?_) (fun x ex m2=>?_)
      ·dsimp only
       rw[if_pos q1,if_pos (by simpa using q2)]
       exact wpS_pure ⟨hS4,.inl ⟨_,_,rfl,m2.first (by lia) nb q2 sa hf⟩⟩
      ·dsimp only
       rw[if_pos q1,if_neg (by simp;lia),if_pos (by simpa using q2)]
       exact wpS_pure ⟨hS4,.inl ⟨_,_,rfl,m2.dn (.inl q2)⟩⟩
      ·dsimp only
       rw[if_pos q1,if_neg (by simp;lia),if_neg (by simp;lia)]
       refine wpS_bind (Z6 ex ?_)
       by_cases c2:k - 1=0
       ·rw[if_pos (by simpa using c2)]
        exact wpS_pure ⟨hS4,.inl ⟨_,_,rfl,m2.dn (.inr c2)⟩⟩
       rw[if_neg (by simpa using c2)]
       split
       ·exact wpS_pure ⟨hS4,.inr ⟨_,_,_,_,_,_,rfl,m2,by lia,by lia,by lia,by lia,by lia⟩⟩
       ·exact wpS_pure ⟨hS4,_,_,_,_,_,_,rfl,m2,by lia,by lia,by lia,by lia,by lia⟩
      ·dsimp only
       rw[if_neg (by lia)]
       refine wpS_bind (Z6 ex ?_)
       by_cases c2:k - 1=0
       ·rw[if_pos (by simpa using c2)]
        exact wpS_pure ⟨hS4,.inl ⟨_,_,rfl,m2.dn (.inr c2)⟩⟩
       rw[if_neg (by simpa using c2)]
       split
       ·exact wpS_pure ⟨hS4,.inr ⟨_,_,_,_,_,_,rfl,m2,by lia,by lia,by lia,by lia,by lia⟩⟩
       ·exact wpS_pure ⟨hS4,_,_,_,_,_,_,rfl,m2,by lia,by lia,by lia,by lia,by lia⟩
     ·dsimp only
      rw[if_neg (by lia)]
      refine wpS_bind (Z6 ey ?_)
      by_cases c1:lb - 1=1
      ·rw[if_pos (by simpa using c1)]
       exact wpS_pure ⟨hS4,.inl ⟨_,_,rfl,m1.first (by lia) nb c1 sa hf⟩⟩
      rw[if_neg (by simpa using c1)]
      refine hi_two hO hk4 ka kb sa sb m1 h1 (by lia) (by lia) (by lia) (fun k2 q1 q2 m2=>?_) (fun k2 q1 q2 m2=>?_) (fun k2 x q1 q2 ex m2=>?_) (fun x ex m2=>?_)
      ·dsimp only
       rw[if_pos q1,if_pos (by simpa using q2)]
       exact wpS_pure ⟨hS4,.inl ⟨_,_,rfl,m2.first (by lia) nb q2 sa hf⟩⟩
      ·dsimp only
       rw[if_pos q1,if_neg (by simp;lia),if_pos (by simpa using q2)]
       exact wpS_pure ⟨hS4,.inl ⟨_,_,rfl,m2.dn (.inl q2)⟩⟩
      ·dsimp only
       rw[if_pos q1,if_neg (by simp;lia),if_neg (by simp;lia)]
       refine wpS_bind (Z6 ex ?_)
       by_cases c2:la - 1=0
       ·rw[if_pos (by simpa using c2)]
        exact wpS_pure ⟨hS4,.inl ⟨_,_,rfl,m2.dn (.inr c2)⟩⟩
       rw[if_neg (by simpa using c2)]
       split
       ·exact wpS_pure ⟨hS4,.inr ⟨_,_,_,_,_,_,rfl,m2,by lia,by lia,by lia,by lia,by lia⟩⟩
       ·exact wpS_pure ⟨hS4,_,_,_,_,_,_,rfl,m2,by lia,by lia,by lia,by lia,by lia⟩
      ·dsimp only
       rw[if_neg (by lia)]
       refine wpS_bind (Z6 ex ?_)
       by_cases c2:la - 1=0
       ·rw[if_pos (by simpa using c2)]
        exact wpS_pure ⟨hS4,.inl ⟨_,_,rfl,m2.dn (.inr c2)⟩⟩
       rw[if_neg (by simpa using c2)]
       split
       ·exact wpS_pure ⟨hS4,.inr ⟨_,_,_,_,_,_,rfl,m2,by lia,by lia,by lia,by lia,by lia⟩⟩
       ·exact wpS_pure ⟨hS4,_,_,_,_,_,_,rfl,m2,by lia,by lia,by lia,by lia,by lia⟩
   ·rintro c st3 ⟨hS3,la,lb,o,mg,ac,bc,rfl,m,h1,h1',h2,h2',h3⟩
    lia
   ·rintro c st3 ⟨hS3,⟨r,t,rfl,hd⟩|⟨la,lb,o,mg,ac,bc,rfl,m,h1,h1',h2,h2',h3⟩⟩
    ·exact wpS_pure ⟨hS3,r,_,rfl,hd⟩
    dsimp only
    refine wpS_bind (wp_min fun st4 hS4=>wpS_pure ⟨hS3.trans hS4,_,_,_,_,rfl,m,h1,h1',h2,h2',by lia⟩)
 ·rintro c st1 ⟨_,ia,ib,out,mg,rfl,_,g1,g1',g2,g2',g3⟩
  lia
 ·rintro c st1 ⟨h1,r,t,rfl,h2⟩
  exact wpS_pure (hq r st1 h2 h1)
end
end TS
set_option autoImplicit false
set_option maxHeartbeats 4000000
set_option linter.all false
namespace TS
open PySem PyProof.Rows
section
variable {κ:KeyKind}
theorem put_at {l:List Keyed}:∀{xs:Array Keyed} {P M T:List Keyed} {n j:Nat},xs.toList=P++M++T->P.length=n+j->M.length=l.length ->
  ((l.zipIdx j).foldl (fun a x=>a.setIfInBounds (n+x.2) x.1) xs).toList=P++l++T:=by
 induction l with
 |nil =>
  intro xs P M T n j e hP hM
  have:M=[]:=List.eq_nil_of_length_eq_zero hM
  subst this
  simpa using e
 |cons x l ih =>
  intro xs P M T n j e hP hM
  cases M with
  |nil=>simp at hM
  |cons y M =>
   rw[List.zipIdx_cons,List.foldl_cons]
   have e2:(xs.setIfInBounds (n+j) x).toList=(P++[x])++M++T:=by
    rw[Array.toList_setIfInBounds,e,<-hP]
    simp
   have:=ih (j:=j+1) (n:=n) e2 (by simp;lia) (by simpa using hM)
   rw[this]
   simp
theorem KK_list {xs:Array Keyed}{i:Nat}:KK κ xs i=match xs.toList[i]? with
  |some p=>kx κ p
  |none=>κ.dflt:=by
 unfold KK kx
 rw[Array.getElem?_toList]
 cases xs[i]?<;>rfl
theorem KK_out {xs ys:Array Keyed}{P M M' T:List Keyed}(h:xs.toList=P++M++T)(h':ys.toList=P++M'++T)(hl:M'.length=M.length){q:Nat}(hq:q<P.length\/P.length+M.length<=q):KK κ ys q=KK κ xs q:=by
 rw[KK_list,KK_list,h,h']
 have:(P++M'++T)[q]?=(P++M++T)[q]?:=by
  rcases hq with hq|hq
  ·rw[List.append_assoc,List.append_assoc,List.getElem?_append_left hq,List.getElem?_append_left hq]
  ·rw[List.getElem?_append_right (by rw[List.length_append];lia),List.getElem?_append_right (by rw[List.length_append];lia),List.length_append,List.length_append,hl]
 rw[this]
theorem srt_mid {xs:Array Keyed}{P M T:List Keyed}(h:xs.toList=P++M++T)(hs:SL κ M):SrtR κ xs P.length (P.length+M.length):=fun p q h1 h2 h3=>by
 by_cases e:p=q
 ·subst e;exact κ.irrefl _
 have g:∀r,P.length<=r->r<P.length+M.length->∃hr:r - P.length<M.length,KK κ xs r=kx κ M[r - P.length]:=fun r r1 r2=>by
  refine⟨by lia,?_⟩
  rw[KK_list,h,List.append_assoc,List.getElem?_append_right r1,List.getElem?_append_left (by lia),List.getElem?_eq_getElem (by lia)]
 obtain⟨a1,a2⟩:=g p h1 (by lia)
 obtain⟨b1,b2⟩:=g q (by lia) h3
 rw[a2,b2]
 exact List.pairwise_iff_getElem.mp hs _ _ a1 b1 (by lia)
theorem KK_ext {xs:Array Keyed}{i n j:Nat}(hj:j<n - i)(hn:n<=xs.size):KK κ (xs.extract i n) j=KK κ xs (i+j):=by
 refine KK_congr ?_
 rw[Array.getElem?_extract,if_pos (by lia)]
theorem ext_size {xs:Array Keyed}{i n:Nat}(hn:n<=xs.size):(xs.extract i n).size=n - i:=by
 rw[Array.size_extract,Nat.min_eq_left hn]
theorem ext_srt {xs:Array Keyed}{i n lo hi:Nat}(hn:n<=xs.size)(h:SrtR κ xs lo hi)(h1:lo<=i)(h2:n<=hi):SrtR κ (xs.extract i n) 0 (xs.extract i n).size:=fun p q p1 p2 p3=>by
 rw[ext_size hn] at p3
 rw[KK_ext (by lia) hn,KK_ext (by lia) hn]
 exact h _ _ (by lia) (by lia) (by lia)
theorem keys_ext {xs:Array Keyed}{i n:Nat}(h:KeysOf κ xs):KeysOf κ (xs.extract i n):=fun p hp=>by
 refine h p ?_
 rw[Array.toList_extract,List.extract_eq_drop_take] at hp
 exact List.mem_of_mem_drop (List.mem_of_mem_take hp)
theorem cut3 {xs:Array Keyed}{i j:Nat}(h:i<=j)(hj:j<=xs.size):xs.toList=(xs.extract 0 i).toList++(xs.extract i j).toList++(xs.extract j xs.size).toList:=by
 rw[ext_take,<-take_cut h hj,<-take_cut hj (Nat.le_refl _),<-Array.length_toList,List.take_length]
theorem ext_cat {xs:Array Keyed}{i j k:Nat}(h:i<=j)(h2:j<=k)(hk:k<=xs.size):(xs.extract i k).toList=(xs.extract i j).toList++(xs.extract j k).toList:=by
 have e1:=take_cut (xs:=xs) h (by lia)
 have e2:=take_cut (xs:=xs) h2 hk
 have e3:=take_cut (xs:=xs) (Nat.le_trans h h2) hk
 rw[e2,e1,List.append_assoc] at e3
 exact(List.append_cancel_left e3).symm
theorem Xd {xs:Array Keyed}{i n:Nat}(hn:n<=xs.size):(xs.extract i n).toList.length=n - i:=by rw[Array.length_toList,ext_size hn]
theorem sl_ext {xs:Array Keyed}{i n:Nat}(hn:n<=xs.size)(h:SrtR κ xs i n):SL κ (xs.extract i n).toList:=sl_of_srt (ext_srt hn h (Nat.le_refl _) (Nat.le_refl _))
theorem merged {xs ys r:Array Keyed}{sa na nb k m:Nat}(hz:sa+na+nb<=xs.size)(hk:k<=na)(hm:m<=nb)(s1:SrtR κ xs sa (sa+na))(s2:SrtR κ xs (sa+na) (sa+na+nb))(hna:k<na)(hnb:0<m)(g1:∀i,i<k->κ.kle (KK κ xs (sa+i)) (KK κ xs (sa+na)))(g3:∀i,m<=i->i<nb->κ.kle (KK κ xs (sa+na - 1)) (KK κ xs (sa+na+i)))(hr:Dn κ ((xs.extract (sa+k) (sa+na)).toList++(xs.extract (sa+na) (sa+na+m)).toList) r.toList)(hy:ys.toList=(xs.extract 0 (sa+k)).toList++r.toList++(xs.extract (sa+na+m) xs.size).toList) :
  ys.Perm xs/\SrtR κ ys sa (sa+na+nb)/\∀q,q<sa\/sa+na+nb<=q->KK κ ys q=KK κ xs q:=by
 have c1:=ext_cat (xs:=xs) (i:=sa+k) (j:=sa+na) (k:=sa+na+m) (by lia) (by lia) (by lia)
 have ex:=cut3 (xs:=xs) (i:=sa+k) (j:=sa+na+m) (by lia) (by lia)
 have p1:ys.Perm xs:=by
  refine Array.perm_iff_toList_perm.mpr ?_
  rw[hy,ex,c1]
  exact List.Perm.append_right _ (List.Perm.append_left _ hr.1)
 have e1:=ext_cat (xs:=xs) (i:=0) (j:=sa) (k:=sa+k) (by lia) (by lia) (by lia)
 have e2:=ext_cat (xs:=xs) (i:=sa+na+m) (j:=sa+na+nb) (k:=xs.size) (by lia) (by lia) (by lia)
 have hy2:ys.toList=(xs.extract 0 sa).toList++((xs.extract sa (sa+k)).toList++r.toList++(xs.extract (sa+na+m) (sa+na+nb)).toList)++(xs.extract (sa+na+nb) xs.size).toList:=by
  rw[hy,e1,e2]
  simp only[List.append_assoc]
 have lr:r.toList.length=(na - k)+m:=by
  rw[hr.1.length_eq,List.length_append,Xd (by lia),Xd (by lia)]
  lia
 have lm:((xs.extract sa (sa+k)).toList++r.toList++(xs.extract (sa+na+m) (sa+na+nb)).toList).length=na+nb:=by
  rw[List.length_append,List.length_append,lr,Xd (by lia),Xd (by lia)]
  lia
 have l0:(xs.extract 0 sa).toList.length=sa:=by rw[Xd (by lia)];lia
 have hx2:=cut3 (xs:=xs) (i:=sa) (j:=sa+na+nb) (by lia) (by lia)
 refine⟨p1,?_,fun q hq=>KK_out hx2 hy2 (by rw[lm,Xd (by lia)];lia) (by rw[l0,Xd (by lia)];lia)⟩
 have key:SL κ ((xs.extract sa (sa+k)).toList++r.toList++(xs.extract (sa+na+m) (sa+na+nb)).toList):=by
  have mr:∀x∈r.toList,(∃j,sa+k<=j/\j<sa+na/\KK κ xs j=kx κ x)\/∃j,sa+na<=j/\j<sa+na+m/\KK κ xs j=kx κ x:=fun x hx=>by
   rcases List.mem_append.mp (hr.1.mem_iff.mp hx) with h|h
   ·exact .inl (mem_ext (by lia) h)
   ·exact .inr (mem_ext (by lia) h)
  refine sl_app.mpr ⟨sl_app.mpr ⟨sl_ext (by lia) fun p q h1 h2 h3=>s1 p q h1 h2 (by lia),hr.2,fun x hx y hy=>?_⟩,sl_ext (by lia) fun p q h1 h2 h3=>s2 p q (by lia) h2 h3,fun x hx y hy=>?_⟩
  ·obtain⟨i,i1,i2,i3⟩:=mem_ext (κ:=κ) (by lia) hx
   have g:=g1 (i - sa) (by lia)
   rw[show sa+(i - sa)=i by lia] at g
   unfold lek
   rcases mr y hy with⟨j,j1,j2,j3⟩|⟨j,j1,j2,j3⟩
   ·rw[<-i3,<-j3];exact s1 i j i1 (by lia) j2
   ·rw[<-i3,<-j3];exact KeyOrd.kle_trans g (s2 _ j (Nat.le_refl _) j1 (by lia))
  ·obtain⟨j,j1,j2,j3⟩:=mem_ext (κ:=κ) (by lia) hy
   have g:=g3 (j - (sa+na)) (by lia) (by lia)
   rw[show sa+na+(j - (sa+na))=j by lia] at g
   unfold lek
   rcases List.mem_append.mp hx with hx|hx
   ·obtain⟨i,i1,i2,i3⟩:=mem_ext (κ:=κ) (by lia) hx
    rw[<-i3,<-j3];exact KeyOrd.kle_trans (s1 i (sa+na - 1) i1 (by lia) (by lia)) g
   ·rcases mr x hx with⟨i,i1,i2,i3⟩|⟨i,i1,i2,i3⟩
    ·rw[<-i3,<-j3];exact KeyOrd.kle_trans (s1 i (sa+na - 1) (by lia) (by lia) (by lia)) g
    ·rw[<-i3,<-j3];exact s2 i j i1 (by lia) (by lia)
 have:=srt_mid hy2 key
 rw[l0,lm] at this
 rwa[show sa+(na+nb)=sa+na+nb by lia] at this
end
section
variable {prog:Program} {w:World} {A:Around} {E:Value->Shared->Prop} {s:Shared} {a₀:Array Keyed} {κ:KeyKind} {kd:SortKind}
abbrev pend2 (p:Array (Nat×Nat×Nat))(i sa n pw:Nat):Array (Nat×Nat×Nat):=(p.setIfInBounds i (sa,n,pw)).eraseIdxIfInBounds (i+1)
theorem wp_set {st st1:SortSt}{Q:PUnit->SortSt->Prop}(h:Q ⟨⟩ st1):wpS (model prog w) A E s (set st1:StateT SortSt Sem PUnit) Q st:=by
 unfold wpS
 rw[StateT.run_set]
 exact wpAny_pure ⟨rfl,h⟩
theorem wp_at {st:SortSt}{i sa na pw nb pw2:Nat}{Q:Bool->SortSt->Prop}(hO:LtOk prog w A E s κ kd)(h0:KeysOf κ a₀)(hB:SB kd a₀ st)(q1:(pendingOf st)[i]?=some (sa,na,pw))(q2:(pendingOf st)[i+1]?=some (sa+na,nb,pw2))(hz:sa+na+nb<=a₀.size)(h1:0<na)(h2:0<nb)(s1:SrtR κ (arrOf st) sa (sa+na))(s2:SrtR κ (arrOf st) (sa+na) (sa+na+nb))(h:∀st',SB kd a₀ st'->pendingOf st'=pend2 (pendingOf st) i sa (na+nb) pw->SrtR κ (arrOf st') sa (sa+na+nb)->(∀q,q<sa\/sa+na+nb<=q->KK κ (arrOf st') q=KK κ (arrOf st) q)->Q true st') :
  wpS (model prog w) A E s (mergeAt' i) Q st:=by
 have ks:=keys_of h0 hB.perm
 have hz':sa+na+nb<=(arrOf st).size:=by rw[hB.size];exact hz
 have zA:sa+na<=(arrOf st).size:=by lia
 obtain⟨y,ey,ky,_⟩:=key_at ks (i:=sa+na) (by lia)
 obtain⟨x,ex,kx',_⟩:=key_at ks (i:=sa+na - 1) (by lia)
 unfold mergeAt'
 refine wpS_bind (wpS_get ?_)
 rw[show((pendingOf st)[i]?,(pendingOf st)[i+1]?)=(some (sa,na,pw),some (sa+na,nb,pw2)) by rw[q1,q2]]
 dsimp only
 refine wpS_bind (wp_set (wpS_bind (Z6 ey (wpS_bind (wp_gal hO hB.kind ks ky zA h1 s1 fun k k1 k2 k3=>?_)))))
 have k2':∀i,i<k->κ.kle (KK κ (arrOf st) (sa+i)) (KK κ (arrOf st) (sa+na)):=fun i hi=>by simpa[bey,KeyOrd.kle] using k2 i hi
 have k3':∀i,k<=i->i<na->κ.klt (KK κ (arrOf st) (sa+na)) (KK κ (arrOf st) (sa+i)):=fun i i1 i2=>by simpa[bey,KeyOrd.klt] using k3 i i1 i2
 have whole:κ.kle (KK κ (arrOf st) (sa+na - 1)) (KK κ (arrOf st) (sa+na))->SrtR κ (arrOf st) sa (sa+na+nb):=fun hh p q p1 p2 p3=>by
  by_cases c1:q<sa+na
  ·exact s1 p q p1 p2 c1
  by_cases c2:sa+na<=p
  ·exact s2 p q c2 p2 p3
  exact KeyOrd.kle_trans (s1 p (sa+na - 1) p1 (by lia) (by lia)) (KeyOrd.kle_trans hh (s2 (sa+na) q (Nat.le_refl _) (by lia) p3))
 dsimp only
 by_cases c1:na - k=0
 ·rw[if_pos (by simpa using c1)]
  refine wpS_pure (h _ ⟨hB.perm,hB.kind,hB.failed⟩ rfl (whole ?_) fun _ _=>rfl)
  have:=k2' (na - 1) (by lia)
  rwa[show sa+(na - 1)=sa+na - 1 by lia] at this
 rw[if_neg (by simpa using c1)]
 rw[show sa+k+(na - k) - 1=sa+na - 1 by lia]
 refine wpS_bind (Z6 ex (wpS_bind (wp_gal hO hB.kind ks kx' hz' (by lia) s2 fun m m1 m2 m3=>?_)))
 have m2':∀i,i<m->κ.kle (KK κ (arrOf st) (sa+na+i)) (KK κ (arrOf st) (sa+na - 1)):=fun i hi=>KeyOrd.kle_of_klt (by simpa[bey,KeyOrd.klt] using m2 i hi)
 have m3':∀i,m<=i->i<nb->κ.kle (KK κ (arrOf st) (sa+na - 1)) (KK κ (arrOf st) (sa+na+i)):=fun i i1 i2=>by simpa[bey,KeyOrd.kle] using m3 i i1 i2
 dsimp only
 by_cases c2:m=0
 ·rw[if_pos (by simpa using c2)]
  refine wpS_pure (h _ ⟨hB.perm,hB.kind,hB.failed⟩ rfl (whole ?_) fun _ _=>rfl)
  exact m3' 0 (by lia) h2
 rw[if_neg (by simpa using c2)]
 have zx:=ext_size (xs:=arrOf st) (i:=sa+k) (n:=sa+na) (by lia)
 have zy:=ext_size (xs:=arrOf st) (i:=sa+na) (n:=sa+na+m) (by lia)
 have zB:sa+na+m<=(arrOf st).size:=by lia
 have nx:0<((arrOf st).extract (sa+k) (sa+na)).size:=by lia
 have ny:0<((arrOf st).extract (sa+na) (sa+na+m)).size:=by lia
 have hf:κ.klt (KK κ ((arrOf st).extract (sa+na) (sa+na+m)) 0) (KK κ ((arrOf st).extract (sa+k) (sa+na)) 0):=by
  rw[KK_ext (by lia) (by lia),KK_ext (by lia) (by lia)]
  exact k3' k (Nat.le_refl _) (by lia)
 have hl:∀j,j<((arrOf st).extract (sa+na) (sa+na+m)).size->κ.kle (KK κ ((arrOf st).extract (sa+na) (sa+na+m)) j) (KK κ ((arrOf st).extract (sa+k) (sa+na)) (((arrOf st).extract (sa+k) (sa+na)).size - 1)):=fun j hj=>by
  rw[zy] at hj
  rw[zx,KK_ext (by lia) (by lia),KK_ext (by lia) (by lia),show sa+k+(sa+na - (sa+k) - 1)=sa+na - 1 by lia]
  exact m2' j (by lia)
 have fin:∀(r:Array Keyed) (st1 st2:SortSt),Dn κ (((arrOf st).extract (sa+k) (sa+na)).toList++((arrOf st).extract (sa+na) (sa+na+m)).toList) r.toList->kindOf st1=kindOf st->failedOf st1=failedOf st->arrOf st1=arrOf st->pendingOf st1=pend2 (pendingOf st) i sa (na+nb) pw->Sm st1 st2 ->
   Q (failedOf st2).isNone (setArr st2 (r.toList.zipIdx.foldl (fun a x=>a.setIfInBounds (sa+k+x.2) x.1) (arrOf st2))):=fun r st1 st2 hr e1 e2 e3 e4 hS=>by
  have lr:r.toList.length=(na - k)+m:=by
   rw[hr.1.length_eq,List.length_append,Xd (by lia),Xd (by lia)]
   lia
  have e5:arrOf st2=arrOf st:=hS.1.trans e3
  have hy:=put_at (l:=r.toList) (n:=sa+k) (j:=0) (cut3 (xs:=arrOf st) (i:=sa+k) (j:=sa+na+m) (by lia) (by lia)) (by rw[Xd (by lia)];lia) (by rw[lr,Xd (by lia)];lia)
  obtain⟨p1,p2,p3⟩:=merged hz' k1 m1 s1 s2 (by lia) (by lia) k2' m3' hr hy
  have ef:(failedOf st2).isNone=true:=by rw[hS.2.2.2,e2,hB.failed];rfl
  rw[ef,e5]
  exact h _ ⟨p1.trans hB.perm,hS.2.2.1.trans (e1.trans hB.kind),hS.2.2.2.trans (e2.trans hB.failed)⟩ (hS.2.1.trans e4) p2 p3
 by_cases c3:na - k<=m
 ·rw[if_pos c3]
  refine wpS_bind (wp_lo hO hB.kind (keys_ext ks) (keys_ext ks) (ext_srt zA s1 (by lia) (by lia)) (ext_srt zB s2 (by lia) (by lia)) nx ny hf hl fun r st2 hr hS=>?_)
  exact wpS_bind (wpS_modify (wpS_bind (wpS_get (wpS_pure (fin r (SortSt.mk' (kindOf st) (arrOf st) (pend2 (pendingOf st) i sa (na+nb) pw) (gallopOf st) (failedOf st)) st2 hr rfl rfl rfl rfl hS)))))
 ·rw[if_neg c3]
  refine wpS_bind (wp_hi hO hB.kind (keys_ext ks) (keys_ext ks) (ext_srt zA s1 (by lia) (by lia)) (ext_srt zB s2 (by lia) (by lia)) nx ny hf hl fun r st2 hr hS=>?_)
  exact wpS_bind (wpS_modify (wpS_bind (wpS_get (wpS_pure (fin r (SortSt.mk' (kindOf st) (arrOf st) (pend2 (pendingOf st) i sa (na+nb) pw) (gallopOf st) (failedOf st)) st2 hr rfl rfl rfl rfl hS)))))
end
end TS
set_option autoImplicit false
set_option maxHeartbeats 4000000
set_option linter.all false
namespace TS
open PySem PyProof.Rows
abbrev Pn:=Nat×Nat×Nat
section
variable {κ:KeyKind}
def Ch (κ:KeyKind)(xs:Array Keyed):Nat->List Pn->Nat->Prop
 |b,[],e=>b=e
 |b,(a,n,_)::r,e=>a=b/\0<n/\SrtR κ xs b (b+n)/\Ch κ xs (b+n) r e
theorem Ch.le {xs:Array Keyed}:∀{l:List Pn} {b e:Nat},Ch κ xs b l e->b+l.length<=e
 |[],b,e,h=>by unfold Ch at h;simp;lia
 |(a,n,w)::r,b,e,h=>by
  unfold Ch at h
  obtain⟨_,h2,_,h4⟩:=h
  have:=h4.le
  rw[List.length_cons]
  lia
theorem Ch.app {xs:Array Keyed}:∀{l m:List Pn} {b e:Nat},Ch κ xs b (l++m) e↔∃c,Ch κ xs b l c/\Ch κ xs c m e
 |[],m,b,e=>⟨fun h=>⟨b,rfl,h⟩,fun⟨c,h1,h2⟩=>by unfold Ch at h1;subst h1;exact h2⟩
 |(a,n,w)::r,m,b,e=>by
  have ih:=@Ch.app xs r m (b+n) e
  constructor
  ·rintro⟨h1,h2,h3,h4⟩
   obtain⟨c,h4,h5⟩:=ih.mp h4
   exact⟨c,⟨h1,h2,h3,h4⟩,h5⟩
  ·rintro⟨c,⟨h1,h2,h3,h4⟩,h5⟩
   exact⟨h1,h2,h3,ih.mpr ⟨c,h4,h5⟩⟩
theorem Ch.keep {xs ys:Array Keyed}:∀{l:List Pn} {b e:Nat},Ch κ xs b l e->(∀q,b<=q->q<e->KK κ ys q=KK κ xs q)->Ch κ ys b l e
 |[],b,e,h,_=>h
 |(a,n,w)::r,b,e,h,k=>by
  unfold Ch at h ⊢
  obtain⟨h1,h2,h3,h4⟩:=h
  have:=h4.le
  refine⟨h1,h2,fun p q p1 p2 p3=>?_,h4.keep fun q q1 q2=>k q (by lia) q2⟩
  rw[k p (by lia) (by lia),k q (by lia) (by lia)]
  exact h3 p q p1 p2 p3
theorem Ch.proj {xs:Array Keyed}:∀{l m:List Pn} {b e:Nat},Ch κ xs b l e->m.map (fun t=>(t.1,t.2.1))=l.map (fun t=>(t.1,t.2.1))->Ch κ xs b m e
 |[],[],b,e,h,_=>h
 |(a,n,w)::r,(a',n',w')::r',b,e,h,k=>by
  rw[List.map_cons,List.map_cons] at k
  injection k with k1 k2
  have k3:a'=a:=(Prod.mk.inj k1).1
  have k4:n'=n:=(Prod.mk.inj k1).2
  subst k3 k4
  unfold Ch at h ⊢
  exact⟨h.1,h.2.1,h.2.2.1,h.2.2.2.proj k2⟩
 |[],_::_,_,_,_,k=>by simp at k
 |_::_,[],_,_,_,k=>by simp at k
theorem two_at {p:Array Pn}{i:Nat}{u v:Pn}(h1:p[i]?=some u)(h2:p[i+1]?=some v):∃l m,p.toList=l++u::v::m/\l.length=i:=by
 obtain⟨a1,a2⟩:=Array.getElem?_eq_some_iff.mp h1
 obtain⟨b1,b2⟩:=Array.getElem?_eq_some_iff.mp h2
 refine⟨p.toList.take i,p.toList.drop (i+2),?_,by simp;lia⟩
 conv=>lhs;rw[<-List.take_append_drop i p.toList]
 rw[List.drop_eq_getElem_cons (by simpa using a1),List.drop_eq_getElem_cons (by simpa using b1)]
 simp[a2,b2]
theorem pend2_list {p:Array Pn}{l m:List Pn}{i sa n pw:Nat}{u v:Pn}(h:p.toList=l++u::v::m)(hl:l.length=i):(pend2 p i sa n pw).toList=l++(sa,n,pw)::m:=by
 have hs:i+1<p.size:=by
  rw[<-Array.length_toList,h,List.length_append,List.length_cons,List.length_cons]
  lia
 unfold pend2
 rw[Array.eraseIdxIfInBounds,dif_pos (by simpa using hs),Array.toList_eraseIdx,Array.toList_setIfInBounds,h,<-hl]
 simp[List.eraseIdx_append_of_length_le]
end
section
variable {prog:Program} {w:World} {A:Around} {E:Value->Shared->Prop} {s:Shared} {a₀:Array Keyed} {κ:KeyKind} {kd:SortKind}
theorem wp_chain {st:SortSt}{i lo:Nat}{Q:Bool->SortSt->Prop}(hO:LtOk prog w A E s κ kd)(h0:KeysOf κ a₀)(hB:SB kd a₀ st)(hc:Ch κ (arrOf st) 0 (pendingOf st).toList lo)(hlo:lo<=a₀.size)(hi:i+1<(pendingOf st).size)(h:∀st',SB kd a₀ st'->Ch κ (arrOf st') 0 (pendingOf st').toList lo->(pendingOf st').size+1=(pendingOf st).size->(∀q,lo<=q->KK κ (arrOf st') q=KK κ (arrOf st) q)->Q true st'):wpS (model prog w) A E s (mergeAt' i) Q st:=by
 obtain⟨⟨sa,na,pw⟩,e1⟩:∃u,(pendingOf st)[i]?=some u:=⟨_,getElem?_pos _ i (by lia)⟩
 obtain⟨⟨sb,nb,pw2⟩,e2⟩:∃u,(pendingOf st)[i+1]?=some u:=⟨_,getElem?_pos _ (i+1) hi⟩
 obtain⟨l,m,el,hl⟩:=two_at e1 e2
 rw[el] at hc
 obtain⟨c,hc1,hc2⟩:=Ch.app.mp hc
 unfold Ch at hc2
 obtain⟨f1,f2,f3,hc2⟩:=hc2
 unfold Ch at hc2
 obtain⟨f4,f5,f6,hc3⟩:=hc2
 subst f1 f4
 have z:=hc3.le
 have z1:=hc1.le
 refine wp_at hO h0 hB e1 e2 (by lia) f2 f5 f3 f6 fun st' b1 b2 b3 b4=>h st' b1 ?_ ?_ fun q hq=>b4 q (.inr (by lia))
 ·rw[b2,pend2_list el hl]
  refine Ch.app.mpr ⟨sa,hc1.keep fun q q1 q2=>b4 q (.inl q2),?_⟩
  unfold Ch
  rw[<-Nat.add_assoc]
  exact⟨rfl,by lia,b3,hc3.keep fun q q1 q2=>b4 q (.inr q1)⟩
 ·have n1:(pendingOf st').size=l.length+1+m.length:=by
   rw[b2,<-Array.length_toList,pend2_list el hl,List.length_append,List.length_cons]
   lia
  have n2:(pendingOf st).size=l.length+2+m.length:=by
   rw[<-Array.length_toList,el,List.length_append,List.length_cons,List.length_cons]
   lia
  lia
theorem mod_proj {l:List Pn}{i pw:Nat}:(l.modify i fun x=>(x.1,x.2.1,pw)).map (fun t=>(t.1,t.2.1))=l.map (fun t=>(t.1,t.2.1)):=by
 refine List.ext_getElem? fun j=>?_
 rw[List.getElem?_map,List.getElem?_map,List.getElem?_modify]
 cases l[j]? with
 |none=>rfl
 |some x =>
  by_cases h:i=j
  ·simp[h]
  ·simp[h]
theorem wp_runs {st:SortSt}{Q:Unit->SortSt->Prop}(hO:LtOk prog w A E s κ kd)(h0:KeysOf κ a₀)(hB:SB kd a₀ st)(hp:pendingOf st=#[])(h2:0<a₀.size)(h:∀st',SB kd a₀ st'->SrtR κ (arrOf st') 0 a₀.size->Q () st'):wpS (model prog w) A E s sortRuns' Q st:=by
 rw[sortRuns'_eq]
 refine wpS_bind (wpS_get ?_)
 dsimp only
 rw[show(arrOf st).size=a₀.size from hB.size]
 have psh:∀(st':SortSt) (lo n:Nat),0<n->Ch κ (arrOf st') 0 (pendingOf st').toList lo->SrtR κ (arrOf st') lo (lo+n)->Ch κ (arrOf st') 0 ((pendingOf st').push (lo,n,0)).toList (lo+n):=fun st' lo n b4 c2 c3=>by
  rw[Array.toList_push]
  exact Ch.app.mpr ⟨lo,c2,by unfold Ch;exact⟨rfl,b4,c3,rfl⟩⟩
 have next:∀(st1:SortSt) (lo n pw:Nat) (R:ForInStep (Option Unit×Nat)->SortSt->Prop)
   (f:Nat->Option Unit×Unit->StateT SortSt Sem (ForInStep (Option Unit×Unit))) (K1:Option Unit×Unit->StateT SortSt Sem (ForInStep (Option Unit×Nat))),
   SB kd a₀ st1->Ch κ (arrOf st1) 0 (pendingOf st1).toList lo->lo+n<=a₀.size->0<n->SrtR κ (arrOf st1) lo (lo+n) ->
   (∀st',SB kd a₀ st'->Ch κ (arrOf st') 0 (pendingOf st').toList (lo+n)->R (.yield (none,lo+n)) st') ->
   (∀x,∃g:SortSt->StateT SortSt Sem (ForInStep (Option Unit×Unit)),f x (none,())=(get>>=g) /\
    (∀z,(if(pendingOf z).size > 1 then(pendingOf z)[(pendingOf z).size - 2]? else none)=none->g z=pure (ForInStep.done (none,()))) /\
    (∀z u1 u2 older,(if(pendingOf z).size > 1 then(pendingOf z)[(pendingOf z).size - 2]? else none)=some (u1,u2,older)->g z=if older<=pw then pure (ForInStep.done (none,())) else(mergeAt' ((pendingOf z).size - 2)>>=fun v=>if(!v)=true then pure (ForInStep.done (some (),())) else pure (ForInStep.yield (none,()))))) ->
   K1 (none,())=(do
     modify fun s=>setPending s ((pendingOf s).modify ((pendingOf s).size - 1) fun x=>(x.1,x.2.1,pw))
     modify fun s=>setPending s ((pendingOf s).push (lo,n,0))
     pure (ForInStep.yield (none,lo+n))) ->
   wpS (model prog w) A E s (forIn [0:a₀.size] (none,()) f>>=K1) R st1:=by
  intro st1 lo n pw R f K1 b1 b2 b3 b4 b5 hR k4 k5
  refine wpS_bind (wpS_mono (wpS_forRange (I:=fun x c st2=>c=(none,())/\SB kd a₀ st2/\Ch κ (arrOf st2) 0 (pendingOf st2).toList lo/\SrtR κ (arrOf st2) lo (lo+n))
   (Q:=fun c st2=>c=(none,())/\SB kd a₀ st2/\Ch κ (arrOf st2) 0 (pendingOf st2).toList lo/\SrtR κ (arrOf st2) lo (lo+n)) ?_ ?_ ⟨rfl,b1,b2,b5⟩) ?_)
  ·rintro x c st2 _ hx ⟨rfl,c1,c2,c3⟩
   obtain⟨g,g1,g2,g3⟩:=k4 x
   rw[g1]
   refine wpS_bind (wpS_get ?_)
   by_cases hs:(pendingOf st2).size > 1
   ·obtain⟨⟨u1,u2,older⟩,eu⟩:∃u,(pendingOf st2)[(pendingOf st2).size - 2]?=some u:=⟨_,getElem?_pos _ _ (by lia)⟩
    rw[g3 st2 u1 u2 older (by rw[if_pos hs,eu])]
    by_cases ho:older<=pw
    ·rw[if_pos ho]
     exact wpS_pure ⟨rfl,c1,c2,c3⟩
    ·rw[if_neg ho]
     refine wpS_bind (wp_chain hO h0 c1 c2 (by lia) (by lia) fun st3 d1 d2 d3 d4=>wpS_pure ⟨rfl,d1,d2,fun p q p1 p2 p3=>?_⟩)
     rw[d4 p p1,d4 q (by lia)]
     exact c3 p q p1 p2 p3
   ·rw[g2 st2 (by rw[if_neg hs])]
    exact wpS_pure ⟨rfl,c1,c2,c3⟩
  ·rintro c st2 ⟨rfl,c1,c2,c3⟩
   exact⟨rfl,c1,c2,c3⟩
  ·rintro c st2 ⟨rfl,c1,c2,c3⟩
   rw[k5]
   refine wpS_bind (wpS_modify (wpS_bind (wpS_modify (wpS_pure (hR _ ⟨c1.perm,c1.kind,c1.failed⟩ ?_)))))
   refine psh (setPending st2 ((pendingOf st2).modify ((pendingOf st2).size - 1) fun x=>(x.1,x.2.1,pw))) lo n b4 ?_ c3
   refine Ch.proj c2 ?_
   change (((pendingOf st2).modify ((pendingOf st2).size - 1) fun x=>(x.1,x.2.1,pw)).toList).map _=_
   rw[Array.toList_modify]
   exact mod_proj
 refine wpS_bind (wpS_mono (wpS_forRange (I:=fun x c st1=>∃lo,c=(none,lo)/\SB kd a₀ st1/\Ch κ (arrOf st1) 0 (pendingOf st1).toList lo/\lo<=a₀.size/\x<=lo)
  (Q:=fun c st1=>∃lo,c=(none,lo)/\SB kd a₀ st1/\Ch κ (arrOf st1) 0 (pendingOf st1).toList a₀.size) ?_ ?_ ⟨0,rfl,hB,by rw[hp];rfl,Nat.zero_le _,Nat.zero_le _⟩) ?_)
 ·rintro x c st1 _ hx ⟨lo,rfl,b1,b2,b3,b4⟩
  dsimp only
  by_cases c1:lo ≥ a₀.size
  ·rw[if_pos c1]
   exact wpS_pure ⟨lo,rfl,b1,by rw[show a₀.size=lo by lia];exact b2⟩
  rw[if_neg c1]
  refine wpS_bind (wp_count hO h0 (by lia) (by lia) b1 fun n st2 d1 d2 d3 d4 d5=>?_)
  dsimp only
  have ch2:Ch κ (arrOf st2) 0 (pendingOf st2).toList lo:=by
   rw[d2.1]
   exact b2.keep fun q _ q2=>d2.2 q q2
  by_cases c2:n<minRun' a₀.size a₀.size 0
  ·rw[if_pos c2]
   refine wpS_bind (wp_rule (wpS_bind (wp_bin hO h0 (n:=min (a₀.size - lo) (minRun' a₀.size a₀.size 0)) (by lia) (by lia) d1 d5 fun st3 e1 e2 e3 e4=>?_)))
   rw[if_neg (by decide)]
   have ch3:Ch κ (arrOf st3) 0 (pendingOf st3).toList lo:=by
    rw[e2]
    exact ch2.keep fun q _ q2=>e3 q q2
   refine wpS_bind (wpS_get ?_)
   cases hb:(pendingOf st3).back? with
   |none =>
    exact wpS_bind (wpS_modify (wpS_pure ⟨_,rfl,⟨e1.perm,e1.kind,e1.failed⟩,psh st3 lo _ (by lia) ch3 e4,by lia,by lia⟩))
   |some t =>
    obtain⟨t1,t2,t3⟩:=t
    dsimp only
    refine next st3 lo _ _ _ _ _ e1 ch3 (by lia) (by lia) e4 (fun st' f1 f2=>⟨_,rfl,f1,f2,by lia,by lia⟩) (fun x=>⟨_,rfl,fun z hz=>by rw[hz],fun z u1 u2 older hz=>by rw[hz]⟩) rfl
  ·rw[if_neg c2]
   refine wpS_bind (wpS_get ?_)
   cases hb:(pendingOf st2).back? with
   |none =>
    exact wpS_bind (wpS_modify (wpS_pure ⟨_,rfl,⟨d1.perm,d1.kind,d1.failed⟩,psh st2 lo _ (by lia) ch2 d5,by lia,by lia⟩))
   |some t =>
    obtain⟨t1,t2,t3⟩:=t
    dsimp only
    refine next st2 lo _ _ _ _ _ d1 ch2 (by lia) (by lia) d5 (fun st' f1 f2=>⟨_,rfl,f1,f2,by lia,by lia⟩) (fun x=>⟨_,rfl,fun z hz=>by rw[hz],fun z u1 u2 older hz=>by rw[hz]⟩) rfl
 ·rintro c st1 ⟨lo,rfl,b1,b2,b3,b4⟩
  exact⟨lo,rfl,b1,by rw[show a₀.size=lo by lia];exact b2⟩
 ·rintro c st1 ⟨lo,rfl,b1,b2⟩
  dsimp only
  have b0:=b2.le
  rw[Array.length_toList] at b0
  refine wpS_bind (wpS_mono (wpS_forRange (I:=fun x c st2=>c=(none,())/\SB kd a₀ st2/\Ch κ (arrOf st2) 0 (pendingOf st2).toList a₀.size/\(pendingOf st2).size+x<=a₀.size)
   (Q:=fun c st2=>c=(none,())/\SB kd a₀ st2/\SrtR κ (arrOf st2) 0 a₀.size) ?_ ?_ ⟨rfl,b1,b2,by lia⟩) ?_)
  ·rintro x c st2 _ hx ⟨rfl,c1,c2,c3⟩
   refine wpS_bind (wpS_get ?_)
   by_cases d1:(pendingOf st2).size<=1
   ·rw[if_pos d1]
    refine wpS_pure ⟨rfl,c1,?_⟩
    rw[<-Array.length_toList] at d1
    cases el:(pendingOf st2).toList with
    |nil =>
     rw[el] at c2
     unfold Ch at c2
     lia
    |cons u r =>
     rw[el] at d1 c2
     have:r=[]:=List.eq_nil_of_length_eq_zero (by simpa using d1)
     subst this
     obtain⟨u1,u2,u3⟩:=u
     unfold Ch at c2
     obtain⟨f1,f2,f3,f4⟩:=c2
     unfold Ch at f4
     rw[<-f4]
     exact f3
   ·rw[if_neg d1]
    have hi:∀v:Bool,(if v=true then(pendingOf st2).size - 2 - 1 else(pendingOf st2).size - 2)+1<(pendingOf st2).size:=fun v=>by
     cases v
     ·rw[if_neg (by decide)];lia
     ·rw[if_pos rfl];lia
    refine wpS_bind (wp_chain hO h0 c1 c2 (Nat.le_refl _) (hi _) fun st3 e1 e2 e3 e4=>wpS_pure ⟨rfl,e1,e2,by lia⟩)
  ·rintro c st2 ⟨rfl,c1,c2,c3⟩
   have:=c2.le
   rw[show max 0 a₀.size=a₀.size by lia] at c3
   have e0:(pendingOf st2).size=0:=by lia
   rw[<-Array.length_toList] at e0
   rw[List.eq_nil_of_length_eq_zero e0] at c2
   unfold Ch at c2
   lia
  ·rintro c st2 ⟨rfl,c1,c2⟩
   exact wpS_pure (h st2 c1 c2)
end
end TS
set_option maxHeartbeats 4000000
set_option linter.all false
set_option maxRecDepth 100000
namespace DL
open PySem PySem.Spec PyProof.Rows L2 PySem.W
def ltK:Key->Key->Bool
 |.inl a,.inl b=>decide (a<b)
 |.inr a,.inr b=>decide (a.cps.toList<b.cps.toList)
 |.inl _,.inr _=>true
 |.inr _,.inl _=>false
theorem ltK_tri (a b:Key):(ltK a b=true/\ltK b a=false/\a≠b)\/(a=b/\ltK a b=false/\ltK b a=false)\/(ltK a b=false/\ltK b a=true/\a≠b):=by
 cases a with
 |inl a =>
  cases b with
  |inl b =>
   unfold ltK
   simp only[decide_eq_true_eq,decide_eq_false_iff_not,ne_eq,Sum.inl.injEq]
   lia
  |inr b=>exact .inl ⟨rfl,rfl,by simp⟩
 |inr a =>
  cases b with
  |inl b=>exact .inr (.inr ⟨rfl,rfl,by simp⟩)
  |inr b =>
   by_cases h:a.cps.toList<b.cps.toList
   ·have h2:¬b.cps.toList<a.cps.toList:=fun z=>List.lt_irrefl _ (List.lt_trans h z)
    refine .inl ⟨decide_eq_true h,decide_eq_false h2,fun e=>?_⟩
    cases e
    exact List.lt_irrefl _ h
   ·by_cases h2:b.cps.toList<a.cps.toList
    ·refine .inr (.inr ⟨decide_eq_false h,decide_eq_true h2,fun e=>?_⟩)
     cases e
     exact List.lt_irrefl _ h2
    ·have e:a.cps.toList=b.cps.toList:=List.le_antisymm (List.not_lt.mp h2) (List.not_lt.mp h)
     have e:a=b:=by
      obtain⟨a⟩:=a
      obtain⟨b⟩:=b
      have:a=b:=Array.toList_inj.mp e
      rw[this]
     exact .inr (.inl ⟨by rw[e],decide_eq_false h,decide_eq_false h2⟩)
theorem ltK_trans {a b c:Key}(h:ltK a b=true)(h2:ltK b c=true):ltK a c=true:=by
 cases a with
 |inl a =>
  cases b with
  |inl b =>
   cases c with
   |inl c =>
    have h:a<b:=of_decide_eq_true h
    have h2:b<c:=of_decide_eq_true h2
    exact decide_eq_true (by lia)
   |inr c=>rfl
  |inr b =>
   cases c with
   |inl c=>cases h2
   |inr c=>rfl
 |inr a =>
  cases b with
  |inl b=>cases h
  |inr b =>
   cases c with
   |inl c=>cases h2
   |inr c=>exact decide_eq_true (List.lt_trans (of_decide_eq_true h) (of_decide_eq_true h2))
def lexK:List Key->List Key->Bool
 |[],[]=>false
 |[],_::_=>true
 |_::_,[]=>false
 |a::r,b::s=>if a=b then lexK r s else ltK a b
theorem lexK_irr:∀a:List Key,lexK a a=false
 |[]=>rfl
 |a::r=>by unfold lexK;rw[if_pos rfl];exact lexK_irr r
theorem lexK_total:∀a b:List Key,lexK a b=false->lexK b a=false->a=b
 |[],[],_,_=>rfl
 |[],_::_,h,_=>by cases h
 |_::_,[],_,h=>by cases h
 |a::r,b::s,h,h2=>by
  unfold lexK at h h2
  rcases ltK_tri a b with⟨t1,t2,t3⟩|⟨rfl,t2,t3⟩|⟨t1,t2,t3⟩
  ·rw[if_neg t3,t1] at h;cases h
  ·rw[if_pos rfl] at h h2
   rw[lexK_total r s h h2]
  ·rw[if_neg (Ne.symm t3),t2] at h2;cases h2
theorem lexK_trans:∀a b c:List Key,lexK a b=true->lexK b c=true->lexK a c=true
 |[],[],_,h,_=>by cases h
 |[],_::_,[],_,h=>by cases h
 |[],_::_,_::_,_,_=>rfl
 |_::_,[],_,h,_=>by cases h
 |_::_,_::_,[],_,h=>by cases h
 |a::r,b::s,c::t,h,h2=>by
  unfold lexK at h h2 ⊢
  rcases ltK_tri a b with⟨t1,t2,t3⟩|⟨rfl,t2,t3⟩|⟨t1,t2,t3⟩
  ·rcases ltK_tri b c with⟨u1,u2,u3⟩|⟨rfl,u2,u3⟩|⟨u1,u2,u3⟩
   ·have h3:=ltK_trans t1 u1
    rw[if_neg fun e=>?_]
    ·exact h3
    ·subst e
     rcases ltK_tri a a with⟨_,_,z⟩|⟨_,z,_⟩|⟨_,_,z⟩
     ·exact z rfl
     ·rw[z] at h3;cases h3
     ·exact z rfl
   ·rw[if_neg t3];exact t1
   ·rw[if_neg u3,u1] at h2;cases h2
  ·rw[if_pos rfl] at h
   rcases ltK_tri a c with⟨u1,u2,u3⟩|⟨rfl,u2,u3⟩|⟨u1,u2,u3⟩
   ·rw[if_neg u3];exact u1
   ·rw[if_pos rfl] at h2 ⊢
    exact lexK_trans r s t h h2
   ·rw[if_neg u3,u1] at h2;cases h2
  ·rw[if_neg t3,t1] at h;cases h
theorem lexK_neg (a b c:List Key)(h:lexK a c=true):lexK a b=true\/lexK b c=true:=by
 cases h1:lexK a b with
 |true=>exact .inl rfl
 |false =>
  right
  cases h2:lexK b a with
  |true=>exact lexK_trans b a c h2 h
  |false=>rw[<-lexK_total a b h1 h2];exact h
def atomV:V->Option Key
 |.int i=>some (.inl i)
 |.str x=>some (.inr x)
 |_=>none
def Yr:List V->List Key
 |[]=>[]
 |v::r=>match atomV v with
  |some k=>k::Yr r
  |none=>[]
def sigV:V->Option Nat
 |.int _=>some 0
 |.str _=>some 1
 |.non=>some 2
 |.bl _=>some 2
 |.ref _=>some 2
 |_=>none
def sigs:List V->Option (List Nat)
 |[]=>some []
 |v::r=>match sigV v,sigs r with
  |some k,some ks=>some (k::ks)
  |_,_=>none
section
variable {prog:Program} {w:World} {A:Around} {E:Value->Shared->Prop} {s:Shared}
theorem lex_same {o:Bool}{Q:Bool->Shared->Prop}:∀{xs:List V} {us ws:List Value} (i:Nat) (l:List Nat),sigs xs=some l->Vals xs us->Vals xs ws->Q false s->KatLex prog w A o false Q (us.zip ws) i s
 |[],_,_,i,_,_,.nil,.nil,q=>kat_nil q
 |x::xs,_,_,i,l,h,.cons (b:=u) rx r1,.cons (b:=v) ry r2,q=>by
  unfold sigs at h
  split at h
  ·rename_i k ks e1 e2
   have rest:=lex_same (o:=o) (i+1) ks e2 r1 r2 q
   refine kat_cons ?_
   cases x with
   |int a =>
    obtain⟨t,rfl⟩:=rx
    obtain⟨t',rfl⟩:=ry
    refine wpAny_eqBool_int ?_
    rw[show(a==a)=true by simp]
    exact kat_yes rest
   |str a =>
    obtain⟨t,rfl⟩:=rx
    obtain⟨t',rfl⟩:=ry
    refine PyProof.Rows.eqBool_str ?_
    rw[show(a==a)=true by simp]
    exact kat_yes rest
   |non=>cases rx;cases ry;exact SeqAt.EqAt.same _ prog w _ _ (kat_yes rest)
   |bl b=>cases rx;cases ry;exact SeqAt.EqAt.same _ prog w _ _ (kat_yes rest)
   |ref b=>cases rx;cases ry;exact SeqAt.EqAt.same _ prog w _ _ (kat_yes rest)
   |_=>cases e1
  ·cases h
theorem lex_ok {o:Bool}{Q:Bool->Shared->Prop}:∀{xs ys:List V} {us ws:List Value} (i:Nat) (l:List Nat),sigs xs=some l->sigs ys=some l->(Yr xs=Yr ys->xs=ys)->Vals xs us->Vals ys ws->Q (lexK (Yr xs) (Yr ys)) s->KatLex prog w A o false Q (us.zip ws) i s
 |[],[],_,_,i,_,_,_,_,.nil,.nil,q=>kat_nil q
 |[],y::ys,_,_,i,l,h,h2,_,_,_,_=>by
  unfold sigs at h h2
  cases h
  split at h2<;>cases h2
 |x::xs,[],_,_,i,l,h,h2,_,_,_,_=>by
  unfold sigs at h h2
  cases h2
  split at h<;>cases h
 |x::xs,y::ys,_,_,i,l,h,h2,hk,.cons (b:=u) rx r1,.cons (b:=v) ry r2,q=>by
  have hx:=h
  have hy:=h2
  unfold sigs at h h2
  split at h
  case h_2=>cases h
  rename_i k ks e1 e2
  split at h2
  case h_2=>cases h2
  rename_i k' ks' e1' e2'
  cases h
  cases h2
  have step:∀(a b:Key) (c d:Bool),atomV x=some a->atomV y=some b->c=decide (a=b)->d=ltK a b->(∀Q':Bool->Shared->Prop,Q' c s->wpAny (model prog w) A (eqBool u v) Q' (fun _ _=>False) s)->(∀(o':Bool) (Q':Bool->Shared->Prop),Q' d s->wpAny (model prog w) A (oneLt' o' u v) Q' (fun _ _=>False) s)->KatLex prog w A o false Q ((u,v)::_) i s:=fun a b c d ea eb hc hd w1 w2=>by
   have k1:Yr (x::xs)=a::Yr xs:=by show(match atomV x with|some k=>k::Yr xs|none=>[])=_;rw[ea]
   have k2:Yr (y::ys)=b::Yr ys:=by show(match atomV y with|some k=>k::Yr ys|none=>[])=_;rw[eb]
   rw[k1,k2] at q hk
   unfold lexK at q
   refine kat_cons (w1 _ ?_)
   subst hc hd
   by_cases e:a=b
   ·rw[decide_eq_true e]
    rw[if_pos e] at q
    refine kat_yes (lex_ok (i+1) ks e2 e2' (fun z=>?_) r1 r2 q)
    have:=hk (by rw[e,z])
    injection this
   ·rw[decide_eq_false e]
    rw[if_neg e] at q
    exact kat_no (w2 _ _ q)
  have other:atomV x=none->atomV y=none->KatLex prog w A o false Q ((u,v)::_) i s:=fun ea eb=>by
   have k1:Yr (x::xs)=[]:=by show(match atomV x with|some k=>k::Yr xs|none=>[])=_;rw[ea]
   have k2:Yr (y::ys)=[]:=by show(match atomV y with|some k=>k::Yr ys|none=>[])=_;rw[eb]
   have e:=hk (by rw[k1,k2])
   injection e with e3 e4
   subst e3 e4
   rw[lexK_irr] at q
   exact lex_same (us:=u::_) (ws:=v::_) i _ hx (.cons rx r1) (.cons ry r2) q
  cases x with
  |int a =>
   cases y with
   |int b =>
    obtain⟨t,rfl⟩:=rx
    obtain⟨t',rfl⟩:=ry
    exact step (.inl a) (.inl b) (a==b) (decide (a<b)) rfl rfl (by by_cases e:a=b<;>simp[e]) rfl (fun Q' z=>wpAny_eqBool_int z) fun o' Q' z=>by
     cases o' with
     |true=>exact oneLt_int z
     |false=>exact kat_one _ _ (PyProof.Rows.lt_int z)
   |_=>simp[sigV] at e1 e1'<;>lia
  |str a =>
   cases y with
   |str b =>
    obtain⟨t,rfl⟩:=rx
    obtain⟨t',rfl⟩:=ry
    exact step (.inr a) (.inr b) (a==b) (decide (a.cps.toList<b.cps.toList)) rfl rfl (by by_cases e:a=b<;>simp[e]) rfl (fun Q' z=>PyProof.Rows.eqBool_str z) fun o' Q' z=>by
     cases o' with
     |true=>exact PyProof.Rows.oneLt_str z
     |false=>exact kat_one _ _ (PyProof.Rows.lt_str z)
   |_=>simp[sigV] at e1 e1'<;>lia
  |non=>cases y<;>first|exact other rfl rfl|(simp[sigV] at e1 e1'<;>lia)
  |bl b=>cases y<;>first|exact other rfl rfl|(simp[sigV] at e1 e1'<;>lia)
  |ref b=>cases y<;>first|exact other rfl rfl|(simp[sigV] at e1 e1'<;>lia)
  |_=>cases e1
end
end DL
set_option maxHeartbeats 4000000
set_option linter.all false
set_option maxRecDepth 100000
namespace DL
open PySem PySem.Spec PyProof.Rows L2 PySem.W
section
variable {prog:Program} {w:World} {A:Around} {E:Value->Shared->Prop} {s:Shared}
theorem ltok_of {κ:KeyKind}{kd:SortKind}(h:∀(x y:Value) (a b:κ.α) (Q:Bool->Shared->Prop) (E':Value->Shared->Prop),κ.keyOf x=some a->κ.keyOf y=some b->Q (κ.blt a b) s->wpAny (model prog w) A (keyLt' kd x y) Q E' s):TS.LtOk prog w A E s κ kd:=by
 intro x y a b st Q ha hb hk q
 rw[lt'_eq]
 refine wpS_bind (wpS_get ?_)
 rw[hk]
 exact wpS_bind (wpS_lift (wpAny_attempt (h x.1 y.1 a b _ _ ha hb ⟨rfl,wpS_pure q⟩)))
def kz (κ:KeyKind)(v:Value):κ.α:=(κ.keyOf v).getD κ.dflt
theorem pairs_out {κ:KeyKind}{vs:List Value}{xs:Array Keyed}(hp:xs.Perm (pairsOf vs))(hs:TS.SrtR κ xs 0 xs.size):(xs.map (·.2)).toList.Perm vs/\(xs.map (·.2)).toList.Pairwise fun x y=>κ.kle (kz κ x) (kz κ y):=by
 have hp:=Array.perm_iff_toList_perm.mp hp
 rw[pairsOf_toList] at hp
 have both:∀p∈xs.toList,p.1=p.2:=fun p h=>(mem_zip_self (hp.mem_iff.mp h)).1
 rw[Array.toList_map]
 refine⟨?_,List.pairwise_map.mpr ((TS.sl_of_srt hs).imp_of_mem fun {p q} h1 h2 h3=>?_)⟩
 ·have e:(vs.zip vs).map (·.2)=vs:=by rw[List.map_snd_zip];lia
  have:=hp.map (·.2)
  rwa[e] at this
 ·have:κ.kle (TS.kx κ p) (TS.kx κ q):=h3
  unfold TS.kx at this
  rw[both p h1,both q h2] at this
  exact this
theorem sortG_tree {a:Addr}{vs:List Value}{n:Nat}{κ:KeyKind}{kd:SortKind}{P:Fin->Shared->Prop} (ho:s.heap.get? a=some (seqObj "list" vs.toArray n)) (hz:vs.length<=sizeLine)
  (hk:2<=vs.length->∀h',(∀b o,b≠a->s.heap.get? b=some o->h'.get? b=some o)->∀Q:SortKind->Shared->Prop,Q kd { s with heap:=h' }->wpAny (model prog w) A (keyKind' vs.toArray) Q E { s with heap:=h' })
  (hq:∀h',(∀b o,b≠a->s.heap.get? b=some o->h'.get? b=some o)->TS.LtOk prog w A E { s with heap:=h' } κ kd) (h0:KeysOf κ (pairsOf vs))
  (h:∀out:List Value,out.Perm vs->(out.Pairwise fun x y=>κ.kle (kz κ x) (kz κ y))->P (.done (.ret .none)) { s with heap:=sortedHeap s.heap a vs out.toArray }) :
  wpAny (model prog w) A (Builtin.«list.sort» ⟨[.ref a],[]⟩) P E s:=by
 have la:a<s.heap.objs.size:=Heap.lt_size ho
 obtain⟨e1,ho1⟩:∃e1,(s.heap.update a (Obj.mapSeq fun _=>#[])).get? a=some (seqObj "list" #[] e1):=⟨_,get?_update_seq ho fun _=>#[]⟩
 have keep:∀b o,b≠a->s.heap.get? b=some o->(((s.heap.update a (Obj.mapSeq fun _=>#[])).push (seqObj "tuple" vs.toArray 0)).push (seqObj "list" #[] 0)).get? b=some o :=
  fun b o nb e=>Heap.get?_push_of_some _ (Heap.get?_push_of_some _ ((Heap.get?_update_other _ _ (Ne.symm nb)).trans e))
 have ho6:(((s.heap.update a (Obj.mapSeq fun _=>#[])).push (seqObj "tuple" vs.toArray 0)).push (seqObj "list" #[] 0)).get? a=some (seqObj "list" #[] e1):=Heap.get?_push_of_some _ (Heap.get?_push_of_some _ ho1)
 have z1:vs.toArray.size<=sizeLine:=by rw[List.size_toArray];exact hz
 rw[list_sort_plain]
 refine wpAny_bind (listItems_at ho rfl (wpAny_bind (listUpdate_at ho rfl (wpAny_bind (seqEpoch_at ho1 rfl (wpAny_bind (wpAny_newTuple (wpAny_bind (wpAny_newList (wpAny_holding ?_) (Nat.zero_le _))) (by simpa using z1))))) z1 (Nat.zero_le _))))
 dsimp only
 by_cases n2:vs.toArray.size<2
 ·rw[if_pos n2,if_pos n2]
  refine wpAny_bind (wpAny_pure ?_)
  rw[StateT.run_pure]
  refine wpAny_bind (wpAny_pure ?_)
  dsimp only
  have eo:(vs.toArray.zip vs.toArray).map (·.2)=vs.toArray:=by
   apply Array.toList_inj.mp
   rw[Array.toList_map,Array.toList_zip,List.map_snd_zip]
   lia
  refine wpAny_bind (seqEpoch_at ho6 rfl (wpAny_bind (listUpdate_at ho6 rfl ?_ (Nat.zero_le _) (by show((vs.toArray.zip vs.toArray).map (·.2)).size<=_;rw[eo];lia))))
  simp only[bne_self_eq_false,Bool.false_eq_true,if_false]
  change wpAny _ _ (ret .none) _ _ { s with heap:=sortedHeap s.heap a vs ((vs.toArray.zip vs.toArray).map (·.2)) }
  rw[eo]
  refine wpAny_pure (h vs (List.Perm.refl _) ?_)
  rw[List.size_toArray] at n2
  match vs,n2 with
  |[],_=>exact List.Pairwise.nil
  |[_],_=>exact List.pairwise_singleton _ _
 ·rw[if_neg n2,if_neg n2]
  rw[List.size_toArray] at n2
  refine wpAny_bind (hk (by lia) _ keep _ ?_)
  refine wpAny_bind (wpAny_mono (TS.wp_runs (a₀:=pairsOf vs) (st:=SortSt.mk' kd (vs.toArray.zip vs.toArray) #[] 7 none) (Q:=fun _ st'=>TS.SB kd (pairsOf vs) st'/\TS.SrtR κ (arrOf st') 0 (pairsOf vs).size) (hq _ keep) h0 ⟨Array.Perm.refl _,rfl,rfl⟩ rfl (by rw[pairsOf_size];lia) fun st' b1 b2=>⟨b1,b2⟩) ?_ fun _ _ e=>e)
  rintro⟨⟨⟩,st'⟩ s' ⟨rfl,b1,b2⟩
  dsimp only
  rw[<-b1.size] at b2
  obtain⟨o1,o2⟩:=pairs_out b1.perm b2
  refine wpAny_bind (seqEpoch_at ho6 rfl (wpAny_bind (listUpdate_at ho6 rfl ?_ (Nat.zero_le _) (by rw[<-Array.length_toList,o1.length_eq];lia))))
  rw[b1.failed]
  simp only[bne_self_eq_false,Bool.false_eq_true,if_false]
  have:=h _ o1 o2
  rw[Array.toArray_toList] at this
  exact wpAny_pure this
theorem sortedG {t:Bool}{l:Addr}{vs:List Value}{κ:KeyKind}{kd:SortKind}{Q:Value->Shared->Prop}(hl:SqK t s.heap l vs.toArray)(hz:vs.length<=sizeLine)(hk:2<=vs.length->∀A' E' h',(∀b o,s.heap.get? b=some o->h'.get? b=some o)->∀Q:SortKind->Shared->Prop,Q kd { s with heap:=h' }->wpAny (model prog w) A' (keyKind' vs.toArray) Q E' { s with heap:=h' })(hq:∀A' E' h',(∀b o,s.heap.get? b=some o->h'.get? b=some o)->TS.LtOk prog w A' E' { s with heap:=h' } κ kd)(h0:KeysOf κ (pairsOf vs))(h:∀out:List Value,out.Perm vs->(out.Pairwise fun x y=>κ.kle (kz κ x) (kz κ y))->Q (.ref (s.heap.objs.size+1)) { s with heap:=sortedAll s.heap vs out.toArray }) :
  wpAny (model prog w) A (call (.builtin "sorted") [.ref l]) Q E s:=by
 refine Calls.call_function_entry kind_sorted plain_sorted entry_sorted (args_sorted1 _) ?_
 unfold Builtin.«sorted»
 refine wpAny_bind (m:=checkCount "sorted" 1 1 _) (wpAny_pure (wpAny_bind (collectK hl (wpAny_bind (wpAny_newList ?_ hz)) hz)))
 have hsz:((s.heap.push (seqObj "list" #[] 0)).update s.heap.objs.size (Obj.mapSeq (·++vs.toArray))).objs.size=s.heap.objs.size+1:=(Heap.size_update ..).trans (size_push' ..)
 have hoL:(((s.heap.push (seqObj "list" #[] 0)).update s.heap.objs.size (Obj.mapSeq (·++vs.toArray))).push (seqObj "list" vs.toArray 0)).get? (s.heap.objs.size+1)=some (seqObj "list" vs.toArray 0):=hsz▸Heap.get?_push_size _ rfl
 have keep:∀b o,s.heap.get? b=some o->(((s.heap.push (seqObj "list" #[] 0)).update s.heap.objs.size (Obj.mapSeq (·++vs.toArray))).push (seqObj "list" vs.toArray 0)).get? b=some o:=fun b o e =>
  Heap.get?_push_of_some _ ((Heap.get?_update_other _ _ (Nat.ne_of_gt (Heap.lt_size e))).trans (Heap.get?_push_of_some _ e))
 have nb:∀b o,s.heap.get? b=some o->b≠s.heap.objs.size+1:=fun b o e=>Nat.ne_of_lt (Nat.lt_succ_of_lt (Heap.lt_size e))
 change wpAny _ _ _ _ _ { s with heap:=((s.heap.push (seqObj "list" #[] 0)).update s.heap.objs.size (Obj.mapSeq (·++vs.toArray))).push (seqObj "list" vs.toArray 0) }
 rw[hsz]
 refine wpAny_bind (wpAny_holding (wpAny_call_entry slot_list_sort ⟨_,hoL,rfl⟩ entry_list_sort (sortG_tree (κ:=κ) (kd:=kd) hoL hz (fun h2 h' e Q hQ=>hk h2 _ _ h' (fun b o z=>e b o (nb b o z) (keep b o z)) Q hQ)
  (fun h' e=>hq _ _ h' fun b o z=>e b o (nb b o z) (keep b o z)) h0 fun out o1 o2=>⟨_,rfl,wpAny_pure ⟨_,rfl,h out o1 o2⟩⟩) (args_list_sort _)))
end
theorem vals_perm:∀{us out:List Value},out.Perm us->∀{zs:List V},Vals zs us->∃zs',zs'.Perm zs/\Vals zs' out:=by
 intro us out p
 induction p with
 |nil=>intro zs r;exact⟨zs,List.Perm.refl _,r⟩
 |cons x _ ih =>
  intro zs r
  cases r with
  |cons h t =>
   obtain⟨zs',p,q⟩:=ih t
   exact⟨_,p.cons _,.cons h q⟩
 |swap x y l =>
  intro zs r
  cases r with
  |cons h t =>
   cases t with
   |cons h2 t=>exact⟨_,List.Perm.swap _ _ _,.cons h2 (.cons h t)⟩
 |trans _ _ ih1 ih2 =>
  intro zs r
  obtain⟨z1,p1,q1⟩:=ih2 r
  obtain⟨z2,p2,q2⟩:=ih1 q1
  exact⟨z2,p2.trans p1,q2⟩
def vkey (H:Hp):V->List Key
 |.ref a=>(match H a with
  |some (.tup y)=>Yr y
  |_=>[])
 |_=>[]
structure CndV (ys:List (List V)):Prop where
 sig:∃l,(∀y∈ys,sigs y=some l)/\(l.head?=some 0\/l.head?=some 1)
 inj:∀x∈ys,∀y∈ys,Yr x=Yr y->x=y
open Classical in
noncomputable def rowKind (H:Hp)(vs:List Value):KeyKind where
 α:=List Key
 blt:=lexK
 irrefl:=lexK_irr
 trans:=lexK_trans
 negTrans:=lexK_neg
 total:=lexK_total
 keyOf:=fun v=>if v∈vs then(match v with
  |.ref a=>(match H a with
   |some (.tup y)=>some (Yr y)
   |_=>none)
  |_=>none) else none
 dflt:=[]
theorem rows_mem {H:Hp}:∀{zs:List V} {ys:List (List V)} {us:List Value},RowsT H zs ys->Vals zs us->∀u∈us,∃a y,u=Value.ref a/\H a=some (.tup y)/\y∈ys
 |_,_,_,.nil,.nil,u,h=>by cases h
 |_,_,_,.cons q r,.cons v t,u,h=>by
  rcases List.mem_cons.mp h with rfl|h
  ·obtain⟨a,rfl,e⟩:=q
   cases v
   exact⟨a,_,rfl,e,by simp⟩
  ·obtain⟨a,y,e1,e2,e3⟩:=rows_mem r t u h
   exact⟨a,y,e1,e2,by simp[e3]⟩
theorem rowKind_key {H:Hp}{vs:List Value}{v:Value}{k:List Key}(h:(rowKind H vs).keyOf v=some k):v∈vs/\∃a y,v=Value.ref a/\H a=some (.tup y)/\k=Yr y:=by
 classical
 by_cases hv:v∈vs
 ·refine⟨hv,?_⟩
  have h:(if v∈vs then(match v with
   |.ref a=>(match H a with
    |some (.tup y)=>some (Yr y)
    |_=>none)
   |_=>none) else none)=some k:=by
   have h2:=h
   simp only[rowKind] at h2
   simpa[hv] using h2
  rw[if_pos hv] at h
  cases v with
  |ref a =>
   dsimp only at h
   split at h
   ·rename_i y e
    cases h
    exact⟨a,y,rfl,e,rfl⟩
   ·cases h
  |_=>cases h
 ·have h2:=h
  simp only[rowKind] at h2
  simp[hv] at h2
theorem rowKind_of {H:Hp}{vs:List Value}{a:Addr}{y:List V}(hv:Value.ref a∈vs)(e:H a=some (.tup y)):(rowKind H vs).keyOf (.ref a)=some (Yr y):=by
 classical
 simp only[rowKind]
 simp[hv,e]
section
variable {X:Cx} {E:XK}
theorem call_sortG:CallR X (.builtin "sorted") (fun xs H Q=>∃(t:Bool) (p:Addr) (zs:List V) (ys:List (List V)),xs=[.ref p]/\SqG t X.K H p zs/\RowsT H zs ys/\CndV ys/\zs.length<=sizeLine /\
  ∀l zs',H l=none->zs'.Perm zs->(zs'.Pairwise fun x y=>lexK (vkey H y) (vkey H x)=false)->Q (.ref l) (upd H l (.lst zs'))):=by
 intro pins s σ H xs us Q I r h
 obtain⟨t,p,zs,ys,rfl,hp,hr,hc,hz,k⟩:=h
 obtain⟨u,rfl,rx⟩:=vals1 r
 cases rx
 obtain⟨its,rv,pl⟩:=inv_sqg I hp
 have hl:=rv.length
 have rows:=rows_h I hr rv
 have mem:=rows_mem hr rv
 obtain⟨⟨sg,sg1,sg2⟩,inj⟩:=hc
 have headOf:∀y∈ys,(sg.head?=some 1->headS y=true)/\(sg.head?=some 0->headI y=true):=fun y hy=>by
  have e:=sg1 y hy
  cases y with
  |nil=>unfold sigs at e;cases e;simp
  |cons v y =>
   unfold sigs at e
   split at e
   ·rename_i a b e1 e2
    cases e
    refine⟨fun q=>?_,fun q=>?_⟩
    ·simp at q;subst q
     cases v<;>simp[sigV] at e1<;>rfl
    ·simp at q;subst q
     cases v<;>simp[sigV] at e1<;>rfl
   ·cases e
 have kind:∃o:Bool,2<=its.length->∀A' E' h',(∀b o,s.heap.get? b=some o->h'.get? b=some o)->∀Q:SortKind->Shared->Prop,Q (tuples' o) { s with heap:=h' }->wpAny (model X.prog X.w) A' (keyKind' its.toArray) Q E' { s with heap:=h' }:=by
  rcases sg2 with q|q
  ·have hh:ys.all headI=true:=List.all_eq_true.mpr fun y hy=>(headOf y hy).2 q
   refine⟨Value.type "int" != Value.type "tuple", fun h2 A' E' h' e Q hQ=>?_⟩
   obtain⟨fs,k1,k2,k3⟩:=(rows.mono e).firstI hh
   exact kat_kind (s:={ s with heap:=h' }) (T:=Value.type "int") k1 (by lia) (fun v hv=>by obtain⟨x,t,rfl⟩:=k2 v hv;exact Looks.of_pure rfl) (by rfl) hQ
  ·have hh:ys.all headS=true:=List.all_eq_true.mpr fun y hy=>(headOf y hy).1 q
   refine⟨Value.type "str" != Value.type "tuple", fun h2 A' E' h' e Q hQ=>?_⟩
   obtain⟨fs,k1,k2,k3⟩:=(rows.mono e).firstS hh
   exact kat_kind (s:={ s with heap:=h' }) (T:=Value.type "str") k1 (by lia) (fun v hv=>by obtain⟨x,t,rfl⟩:=k2 v hv;exact Looks.of_pure rfl) (by rfl) hQ
 obtain⟨o,kind⟩:=kind
 refine sortedG (κ:=rowKind H its) (kd:=tuples' o) pl (by lia) kind (fun A' E' h' e=>ltok_of fun x y a b Q E2 ha hb hQ=>?_) (fun q hq=>?_) fun out o1 o2=>?_
 ·obtain⟨m1,ax,x',rfl,e1,rfl⟩:=rowKind_key ha
  obtain⟨m2,ay,y',rfl,e2,rfl⟩:=rowKind_key hb
  obtain⟨bx,x2,w1,w2,w3⟩:=mem _ m1
  obtain⟨by',y2,v1,v2,v3⟩:=mem _ m2
  cases w1
  cases v1
  rw[w2] at e1
  rw[v2] at e2
  cases e1
  cases e2
  obtain⟨i1,r1,⟨ox,g1,g2,n1,g3⟩,_⟩:=I.tuple (SqT.of w2)
  obtain⟨i2,r2,⟨oy,f1,f2,n2,f3⟩,_⟩:=I.tuple (SqT.of v2)
  refine kat_lt (s:={ s with heap:=h' }) (e _ _ g1) g3 (e _ _ f1) f3 ?_
  have l1:=r1.length
  have l2:=r2.length
  have sx:=sg1 _ w3
  have sy:=sg1 _ v3
  have len:∀{v:List V} {l:List Nat},sigs v=some l->v.length=l.length:=by
   intro v
   induction v with
   |nil=>intro l q;unfold sigs at q;cases q;rfl
   |cons v vs ih =>
    intro l q
    unfold sigs at q
    split at q
    ·rename_i a b c1 c2
     cases q
     rw[List.length_cons,List.length_cons,ih c2]
    ·cases q
  have z1:=len sx
  have z2:=len sy
  have:decide (i1.toArray.size<i2.toArray.size)=false:=decide_eq_false (by rw[List.size_toArray,List.size_toArray];lia)
  rw[this]
  exact lex_ok 0 sg sx sy (inj _ w3 _ v3) r1 r2 hQ
 ·have hm:=(mem_zip_self (pairsOf_toList its▸hq)).2
  obtain⟨a,y,e1,e2,e3⟩:=mem _ hm
  rw[e1] at hm ⊢
  exact⟨_,rowKind_of hm e2⟩
 ·obtain⟨zs',p1,p2⟩:=vals_perm o1 rv
  obtain⟨n,he⟩:=sortedAll_at s.heap its out.toArray
  refine⟨.ref (s.heap.objs.size+1),_,I.laid (t':=s.toks) (o:=.lst zs') (fun b o e=>sortedAll_old e) (Nat.le_succ _) ⟨by rw[p1.length_eq];exact hz,out,n,p2,he⟩,rfl,k _ zs' (I.hok.fresh (Nat.le_succ _)) p1 ?_⟩
  have key:∀{zs':List V} {out:List Value},Vals zs' out->(∀u∈out,u∈its)->(out.Pairwise fun x y=>(rowKind H its).kle (kz (rowKind H its) x) (kz (rowKind H its) y))->zs'.Pairwise fun x y=>lexK (vkey H y) (vkey H x)=false:=by
   intro zs' out rr
   have one:∀{z:V} {u:Value},RelV z u->u∈its->kz (rowKind H its) u=vkey H z:=fun {z u} h1 h2=>by
    obtain⟨a,y,rfl,e2,e3⟩:=mem _ h2
    have ez:z=.ref a:=RelV.inj h1 (show RelV (.ref a) (Value.ref a) from rfl)
    subst ez
    have e5:vkey H (.ref a)=Yr y:=by
     show(match H a with
      |some (.tup y)=>Yr y
      |_=>[])=_
     rw[e2]
    unfold kz
    rw[rowKind_of h2 e2,e5]
    rfl
   induction rr with
   |nil=>intro _ _;exact List.Pairwise.nil
   |cons h1 t ih =>
    intro hm hs
    obtain⟨s1,s2⟩:=List.pairwise_cons.mp hs
    refine List.pairwise_cons.mpr ⟨fun z hz=>?_,ih (fun u hu=>hm u (by simp[hu])) s2⟩
    obtain⟨j,hj,ej⟩:=List.mem_iff_getElem.mp hz
    obtain⟨u,eu,ru⟩:=Vals.get t (List.getElem?_eq_getElem hj)
    have hu:u∈_:=List.mem_of_getElem? eu
    have:=s1 u hu
    rw[one h1 (hm _ (by simp)),one ru (hm u (by simp[hu])),ej] at this
    exact this
  exact key p2 (fun u hu=>o1.mem_iff.mp hu) o2
end
end DL
set_option maxHeartbeats 4000000
set_option linter.all false
set_option maxRecDepth 100000
namespace DL
open PySem PySem.Spec PyProof.Rows L2 PySem.W
def atomK:D->Option Key
 |.int i=>some (.inl i)
 |.str x=>some (.inr x)
 |_=>none
def keyRs:List D->List Key
 |[]=>[]
 |d::r=>match atomK d with
  |some k=>k::keyRs r
  |none=>[]
def Qg:D->List Key
 |.tup es=>keyRs es
 |_=>[]
def sigD:D->Nat
 |.int _=>0
 |.str _=>1
 |_=>2
def rowSig:D->Option (List Nat)
 |.tup es=>some (es.map sigD)
 |_=>none
def insD (x:D):List D->List D
 |[]=>[x]
 |y::r=>if lexK (Qg y) (Qg x)=true then y::insD x r else x::y::r
def Q6:List D->List D
 |[]=>[]
 |x::r=>insD x (Q6 r)
theorem insD_perm (x:D):∀l:List D,(insD x l).Perm (x::l)
 |[]=>List.Perm.refl _
 |y::r=>by
  unfold insD
  split
  ·exact((insD_perm x r).cons y).trans (List.Perm.swap x y r)
  ·exact List.Perm.refl _
theorem Q9:∀l:List D,(Q6 l).Perm l
 |[]=>List.Perm.refl _
 |x::r=>(insD_perm x _).trans ((Q9 r).cons x)
abbrev leK (a b:List Key):Prop:=lexK b a=false
theorem leK_trans {a b c:List Key}(h:leK a b)(h2:leK b c):leK a c:=by
 unfold leK at *
 cases h3:lexK c a with
 |false=>rfl
 |true =>
  rcases lexK_neg c b a h3 with z|z
  ·rw[h2] at z;cases z
  ·rw[h] at z;cases z
theorem leK_of {a b:List Key}(h:lexK a b=true):leK a b:=by
 unfold leK
 cases h2:lexK b a with
 |false=>rfl
 |true=>have:=lexK_trans a b a h h2;rw[lexK_irr] at this;cases this
abbrev SrtD (l:List D):Prop:=l.Pairwise fun x y=>leK (Qg x) (Qg y)
theorem insD_sorted (x:D):∀l:List D,SrtD l->SrtD (insD x l)
 |[],_=>List.pairwise_singleton _ _
 |y::r,h=>by
  obtain⟨h1,h2⟩:=List.pairwise_cons.mp h
  unfold insD
  split
  ·rename_i hxy
   refine List.pairwise_cons.mpr ⟨fun z hz=>?_,insD_sorted x r h2⟩
   rcases List.mem_cons.mp ((insD_perm x r).mem_iff.mp hz) with rfl|hz
   ·exact leK_of hxy
   ·exact h1 z hz
  ·rename_i hxy
   have hxy:leK (Qg x) (Qg y):=by simpa using hxy
   refine List.pairwise_cons.mpr ⟨fun z hz=>?_,h⟩
   rcases List.mem_cons.mp hz with rfl|hz
   ·exact hxy
   ·exact leK_trans hxy (h1 z hz)
theorem Y0:∀l:List D,SrtD (Q6 l)
 |[]=>List.Pairwise.nil
 |x::r=>insD_sorted x _ (Y0 r)
theorem keys_same:∀{a b:List (List Key)},a.Perm b->a.Pairwise leK->b.Pairwise leK->a=b
 |[],b,p,_,_=>(List.nil_perm.mp p).symm
 |x::a,[],p,_,_=>by have:=p.length_eq;simp at this
 |x::a,y::b,p,ha,hb=>by
  obtain⟨a1,a2⟩:=List.pairwise_cons.mp ha
  obtain⟨b1,b2⟩:=List.pairwise_cons.mp hb
  have hx:leK y x:=by
   rcases List.mem_cons.mp (p.mem_iff.mp (List.mem_cons_self)) with e|e
   ·rw[e];exact lexK_irr y
   ·exact b1 x e
  have hy:leK x y:=by
   rcases List.mem_cons.mp (p.mem_iff.mpr (List.mem_cons_self)) with e|e
   ·rw[e];exact lexK_irr x
   ·exact a1 y e
  have e:x=y:=lexK_total _ _ hx hy
  subst e
  rw[keys_same (List.Perm.cons_inv p) a2 b2]
theorem inj_nodup {α β:Type}{f:α->β}:∀{l:List α},(l.map f).Nodup->∀x∈l,∀y∈l,f x=f y->x=y
 |[],_,x,hx,_,_,_=>by cases hx
 |a::l,h,x,hx,y,hy,e=>by
  rw[List.map_cons] at h
  obtain⟨h1,h2⟩:=List.nodup_cons.mp h
  rcases List.mem_cons.mp hx with ex|hx
  ·rcases List.mem_cons.mp hy with ey|hy
   ·rw[ex,ey]
   ·exact absurd (List.mem_map.mpr ⟨y,hy,by rw[<-e,ex]⟩) h1
  ·rcases List.mem_cons.mp hy with ey|hy
   ·exact absurd (List.mem_map.mpr ⟨x,hx,by rw[e,ey]⟩) h1
   ·exact inj_nodup h2 x hx y hy e
theorem keyRs_inj:∀{es fs:List D},es.map sigD=fs.map sigD->(∀k∈es.map sigD,k<2)->keyRs es=keyRs fs->es=fs
 |[],[],_,_,_=>rfl
 |[],_::_,h,_,_=>by simp at h
 |_::_,[],h,_,_=>by simp at h
 |e::es,f::fs,h,hs,hk=>by
  rw[List.map_cons,List.map_cons] at h
  injection h with h1 h2
  have hs1:=hs (sigD e) (by simp)
  have ih:keyRs es=keyRs fs->es=fs:=fun z=>keyRs_inj h2 (fun k hk=>hs k (by rw[List.map_cons];exact List.mem_cons_of_mem _ hk)) z
  cases e with
  |int a =>
   cases f with
   |int b =>
    unfold keyRs at hk
    simp only[atomK] at hk
    injection hk with k1 k2
    injection k1 with k1
    rw[k1,ih k2]
   |_=>simp[sigD] at h1
  |str a =>
   cases f with
   |str b =>
    unfold keyRs at hk
    simp only[atomK] at hk
    injection hk with k1 k2
    injection k1 with k1
    rw[k1,ih k2]
   |_=>simp[sigD] at h1
  |_=>simp[sigD] at hs1
theorem keyV_inj:∀{x y:List V} {l:List Nat},sigs x=some l->sigs y=some l->(∀k∈l,k<2)->Yr x=Yr y->x=y
 |[],[],_,_,_,_,_=>rfl
 |[],y::ys,l,h,h2,_,_=>by
  unfold sigs at h h2
  cases h
  split at h2<;>cases h2
 |x::xs,[],l,h,h2,_,_=>by
  unfold sigs at h h2
  cases h2
  split at h<;>cases h
 |x::xs,y::ys,l,h,h2,hs,hk=>by
  unfold sigs at h h2
  split at h
  case h_2=>cases h
  rename_i k ks e1 e2
  split at h2
  case h_2=>cases h2
  rename_i k' ks' e1' e2'
  cases h
  cases h2
  have hs1:=hs k (by simp)
  have ih:Yr xs=Yr ys->xs=ys:=fun z=>keyV_inj e2 e2' (fun k hk=>hs k (by simp[hk])) z
  cases x with
  |int a =>
   cases y with
   |int b =>
    unfold Yr at hk
    simp only[atomV] at hk
    injection hk with k1 k2
    injection k1 with k1
    rw[k1,ih k2]
   |_=>simp[sigV] at e1 e1'<;>lia
  |str a =>
   cases y with
   |str b =>
    unfold Yr at hk
    simp only[atomV] at hk
    injection hk with k1 k2
    injection k1 with k1
    rw[k1,ih k2]
   |_=>simp[sigV] at e1 e1'<;>lia
  |_=>simp[sigV] at e1<;>lia
theorem row_is {K:PySem.W.Frag}{H:Hp}:∀{es:List D} {y:List V},Reps K H es y->Yr y=keyRs es/\sigs y=some (es.map sigD)
 |[],y,r=>by rw[reps_nil.mp r];exact⟨rfl,rfl⟩
 |e::es,y,r=>by
  obtain⟨x,t,rfl,h1,h2⟩:=reps_cons.mp r
  obtain⟨i1,i2⟩:=row_is h2
  unfold Yr keyRs sigs
  rw[i2,List.map_cons]
  cases e with
  |int a=>rw[rep_int.mp h1,i1];exact⟨rfl,rfl⟩
  |str a=>rw[rep_str.mp h1,i1];exact⟨rfl,rfl⟩
  |non=>rw[rep_non.mp h1];exact⟨rfl,rfl⟩
  |bl b=>rw[rep_bl.mp h1];exact⟨rfl,rfl⟩
  |tup ds =>
   obtain⟨a,xs,rfl,_⟩:=rep_tup.mp h1
   exact⟨rfl,rfl⟩
  |lst ds =>
   obtain⟨a,xs,rfl,_⟩:=rep_lst.mp h1
   exact⟨rfl,rfl⟩
def condD (ds:List D):Bool:=match ds with
 |[]=>true
 |d::_=>match rowSig d with
  |some l=>ds.all (fun e=>rowSig e==some l)&&(l.head?==some 0||l.head?==some 1)&&(l.all (fun k=>decide (k<2))||decide ((ds.map Qg).Nodup))
  |none=>false
structure CD (ds:List D) (l:List Nat):Prop where
 row:∀d∈ds,rowSig d=some l
 hd:l.head?=some 0\/l.head?=some 1
 inj:(∀k∈l,k<2)\/(ds.map Qg).Nodup
theorem condD_cd {ds:List D}(h:condD ds=true):∃l,CD ds l:=by
 unfold condD at h
 split at h
 ·exact⟨[0],fun d hd=>(by cases hd),.inl rfl,.inr List.nodup_nil⟩
 ·split at h
  ·rename_i d r l el
   rw[Bool.and_eq_true,Bool.and_eq_true,Bool.or_eq_true,Bool.or_eq_true] at h
   obtain⟨⟨h1,h2⟩,h3⟩:=h
   refine⟨l,fun d hd=>?_,?_,?_⟩
   ·exact eq_of_beq (List.all_eq_true.mp h1 d hd)
   ·rcases h2 with h2|h2
    ·exact .inl (eq_of_beq h2)
    ·exact .inr (eq_of_beq h2)
   ·rcases h3 with h3|h3
    ·exact .inl fun k hk=>of_decide_eq_true (List.all_eq_true.mp h3 k hk)
    ·exact .inr (of_decide_eq_true h3)
  ·cases h
theorem CD.injD {ds:List D}{l:List Nat}(h:CD ds l):∀d∈ds,∀e∈ds,Qg d=Qg e->d=e:=fun d hd e he hk=>by
 rcases h.inj with hi|hi
 ·have r1:=h.row d hd
  have r2:=h.row e he
  cases d with
  |tup es =>
   cases e with
   |tup fs =>
    simp only[rowSig,Option.some.injEq] at r1 r2
    rw[keyRs_inj (es:=es) (fs:=fs) (by rw[r1,r2]) (by rw[r1];exact hi) hk]
   |_=>cases r2
  |_=>cases r1
 ·exact inj_nodup hi d hd e he hk
theorem rows_of {K:PySem.W.Frag}{H:Hp}{l:List Nat}:∀{ds:List D} {zs:List V},Reps K H ds zs->(∀d∈ds,rowSig d=some l)->∃ys,RowsT H zs ys/\(∀y∈ys,sigs y=some l)/\ys.map Yr=ds.map Qg
 |[],zs,r,_=>by rw[reps_nil.mp r];exact⟨[],.nil,fun y hy=>(by cases hy),rfl⟩
 |d::ds,zs,r,h=>by
  obtain⟨x,t,rfl,h1,h2⟩:=reps_cons.mp r
  obtain⟨ys,i1,i2,i3⟩:=rows_of h2 fun d hd=>h d (by simp[hd])
  have hd:=h d (by simp)
  cases d with
  |tup es =>
   obtain⟨a,y,rfl,h3,h4⟩:=rep_tup.mp h1
   obtain⟨k1,k2⟩:=row_is h4
   simp only[rowSig,Option.some.injEq] at hd
   refine⟨y::ys,.cons ⟨a,rfl,h3⟩ i1,fun z hz=>?_,?_⟩
   ·rcases List.mem_cons.mp hz with rfl|hz
    ·rw[k2,hd]
    ·exact i2 z hz
   ·rw[List.map_cons,List.map_cons,i3,k1];rfl
  |_=>cases hd
theorem vkey_is {K:PySem.W.Frag}{Hf H:Hp}(e:Same Hf H){d:D}{z:V}{l:List Nat}(hd:rowSig d=some l)(r:Rep K Hf d z):vkey H z=Qg d:=by
 cases d with
 |tup es =>
  obtain⟨a,y,rfl,h3,h4⟩:=rep_tup.mp r
  show(match H a with
   |some (.tup y)=>Yr y
   |_=>[])=_
  rw[e _ _ h3]
  exact(row_is h4).1
 |_=>cases hd
theorem vkeys_is {K:PySem.W.Frag}{Hf H:Hp}(e:Same Hf H){l:List Nat}:∀{ds:List D} {zs:List V},Reps K Hf ds zs->(∀d∈ds,rowSig d=some l)->zs.map (vkey H)=ds.map Qg
 |[],zs,r,_=>by rw[reps_nil.mp r];rfl
 |d::ds,zs,r,h=>by
  obtain⟨x,t,rfl,h1,h2⟩:=reps_cons.mp r
  rw[List.map_cons,List.map_cons,vkey_is e (h d (by simp)) h1,vkeys_is e h2 fun d hd=>h d (by simp[hd])]
theorem rep_part {K:PySem.W.Frag}{H:Hp}:∀{ds:List D} {zs:List V},Reps K H ds zs->∀z∈zs,∃d∈ds,Rep K H d z
 |[],zs,r,z,hz=>by rw[reps_nil.mp r] at hz;cases hz
 |d::ds,zs,r,z,hz=>by
  obtain⟨x,t,rfl,h1,h2⟩:=reps_cons.mp r
  rcases List.mem_cons.mp hz with rfl|hz
  ·exact⟨d,by simp,h1⟩
  ·obtain⟨d',h3,h4⟩:=rep_part h2 z hz
   exact⟨d',by simp[h3],h4⟩
theorem reps_by {K:PySem.W.Frag}{H:Hp}{f:V->List Key}{P:D->Prop}{T:V->Prop}(hP:∀d z,P d->T z->Qg d=f z->Rep K H d z):∀{ds:List D} {zs:List V},ds.map Qg=zs.map f->(∀d∈ds,P d)->(∀z∈zs,T z)->Reps K H ds zs
 |[],[],_,_,_=>Reps.nil
 |[],_::_,h,_,_=>by simp at h
 |_::_,[],h,_,_=>by simp at h
 |d::ds,z::zs,h,h1,h2=>by
  rw[List.map_cons,List.map_cons] at h
  injection h with e1 e2
  exact Reps.cons (hP d z (h1 d (by simp)) (h2 z (by simp)) e1) (reps_by hP e2 (fun d hd=>h1 d (by simp[hd])) fun z hz=>h2 z (by simp[hz]))
section
variable {X:Cx} {E:XK}
def sortGD (ds:List D):M D:=if few ds&&condD ds then .ok (.lst (Q6 ds)) else .bad
def bSortG:List D->M D
 |[.lst ds]=>sortGD ds
 |[.tup ds]=>sortGD ds
 |_=>.bad
theorem sortGD_ok {t:Bool}{Hf H:Hp}{p:Addr}{zs:List V}{ds:List D}{Q:VK}(e:Same Hf H)(hp:SqG t X.K Hf p zs)(hr:Reps X.K Hf ds zs)(q:Po X.K E (rV X.K) Hf H (sortGD ds) Q) :
  ∃(t:Bool) (p':Addr) (zs:List V) (ys:List (List V)),[V.ref p]=[V.ref p']/\SqG t X.K H p' zs/\RowsT H zs ys/\CndV ys/\zs.length<=sizeLine /\
  ∀l zs',H l=none->zs'.Perm zs->(zs'.Pairwise fun x y=>lexK (vkey H y) (vkey H x)=false)->Q (.ref l) (upd H l (.lst zs')):=by
 unfold sortGD at q
 have hl:=hr.length
 split at q
 case isFalse=>exact q.elim
 case isTrue hc =>
 rw[Bool.and_eq_true] at hc
 obtain⟨l,cd⟩:=condD_cd hc.2
 obtain⟨ys,y1,y2,y3⟩:=rows_of hr cd.row
 have hz:zs.length<=sizeLine:=by
  have:=of_decide_eq_true hc.1
  rw[sizeLine_eq];lia
 refine⟨t,p,zs,ys,rfl,sqg_same e hp,y1.mono e,⟨⟨l,y2,cd.hd⟩,fun x hx y hy hk=>?_⟩,hz,fun a zs' ha p1 p2=>q _ _ _ (Gr.alloc e ha _) (Gr.lst e ha ?_)⟩
 ·rcases cd.inj with hi|hi
  ·exact keyV_inj (y2 x hx) (y2 y hy) hi hk
  ·exact inj_nodup (y3▸hi) x hx y hy hk
 ·have k1:(zs'.map (vkey H))=(Q6 ds).map Qg:=by
   refine keys_same ?_ (List.pairwise_map.mpr p2) (List.pairwise_map.mpr (Y0 ds))
   refine(p1.map _).trans ?_
   rw[vkeys_is e hr cd.row]
   exact((Q9 ds).map _).symm
  refine reps_by (f:=vkey H) (P:=fun d=>d∈ds) (T:=fun z=>z∈zs) (fun d z hd hz hk=>?_) k1.symm (fun d hd=>(Q9 ds).mem_iff.mp hd) fun z hz=>p1.mem_iff.mp hz
  obtain⟨d',h1,h2⟩:=rep_part hr z hz
  have:d=d':=cd.injD d hd d' h1 (by rw[hk,vkey_is e (cd.row d' h1) h2])
  rw[this];exact h2
theorem cd_sortG:CallD X E (.builtin "sorted") bSortG:=by
 refine⟨_,call_sortG,fun Hf H xs ds Q e r q=>?_⟩
 unfold bSortG at q
 split at q
 ·obtain⟨x,rfl,h⟩:=reps1 r
  obtain⟨p,ys,rfl,hp,hr⟩:=rep_lst.mp h
  exact sortGD_ok (t:=false) e hp hr q
 ·obtain⟨x,rfl,h⟩:=reps1 r
  obtain⟨p,ys,rfl,hp,hr⟩:=Z8 h
  exact sortGD_ok (t:=true) e hp hr q
 ·exact q.elim
end
end DL
set_option maxHeartbeats 4000000
set_option linter.all false
set_option maxRecDepth 100000
namespace DL
open PySem PySem.Spec PyProof.Rows L2
section
variable {X:Cx} {E:XK} {pos:Pos} {a b:Expr}
end
def PoX (K:PySem.W.Frag)(E:XK)(H0:Hp)(B:Addr->Prop)(σ:L2.St)(Hf:Hp){α β:Type}(R:Hp->Hp->α->β->Prop)(r:M (α×DSt))(Q:β->Hp->Prop):Prop:=match r with
 |.ok (a,sd')=>∀b Hf' H',Same Hf Hf'->SR K H0 B Hf' sd' σ H'->R Hf' H' a b->Q b H'
 |.ex x=>∀c dx Hf' H',Same Hf Hf'->Fin' H0 B Hf' H'->RepX K Hf' H' x c dx->E c dx H'
 |.bad=>False
def PXd (X:Cx)(E:XK)(e:Expr)(f:DSt->M (D×DSt)):Prop :=
 ∃t:TE,PE X e t/\∀(H0:Hp) (B:Addr->Prop) (Hf:Hp) (sd:DSt) (σ:L2.St) (H:Hp) (Q:VK),SR X.K H0 B Hf sd σ H->PoX X.K E H0 B σ Hf (rV X.K) (f sd) Q->t σ H Q
def PXAd (X:Cx)(E:XK)(es:List Expr)(f:DSt->M (List D×DSt)):Prop :=
 ∃t:TA,PA X es t/\∀(H0:Hp) (B:Addr->Prop) (Hf:Hp) (sd:DSt) (σ:L2.St) (H:Hp) (Q:List V->Hp->Prop),SR X.K H0 B Hf sd σ H->PoX X.K E H0 B σ Hf (rA X.K) (f sd) Q->t σ H Q
section
variable {K:PySem.W.Frag} {E:XK} {H0:Hp} {B:Addr->Prop} {σ:L2.St} {Hf H Hf1:Hp} {α β γ δ:Type} {R:Hp->Hp->α->β->Prop} {T:Hp->Hp->γ->δ->Prop}
theorem PoX.weak {r:M (α×DSt)}{Q:β->Hp->Prop}(g:Same Hf Hf1)(h:PoX K E H0 B σ Hf R r Q):PoX K E H0 B σ Hf1 R r Q:=by
 cases r with
 |ok a=>exact fun b Hf' H' e q=>h b Hf' H' (g.trans e) q
 |ex x=>exact fun c dx Hf' H' e q=>h c dx Hf' H' (g.trans e) q
 |bad=>exact h
theorem PoX.bind {sd:DSt}{r:M γ}{k:γ->M (α×DSt)}{Q:β->Hp->Prop}{Q1:δ->Hp->Prop}(sr:SR K H0 B Hf sd σ H)(h:PoX K E H0 B σ Hf R (r.bind k) Q)(s:∀a b Hf1 H1,r=.ok a->Gr Hf H Hf1 H1->SR K H0 B Hf1 sd σ H1->T Hf1 H1 a b->PoX K E H0 B σ Hf1 R (k a) Q->Q1 b H1):Po K E T Hf H r Q1:=by
 cases r with
 |ok a=>exact fun b Hf' H' g q=>s a b Hf' H' rfl g (sr.gr g) q (PoX.weak g.fz h)
 |ex x=>exact fun c dx Hf' H' g q=>h c dx Hf' H' g.fz (sr.gr g).fin q
 |bad=>exact h
theorem PoX.bindX {r:M (γ×DSt)}{k:γ×DSt->M (α×DSt)}{Q:β->Hp->Prop}{Q1:δ->Hp->Prop}(h:PoX K E H0 B σ Hf R (r.bind k) Q)(s:∀a sd' b Hf1 H1,r=.ok (a,sd')->Same Hf Hf1->SR K H0 B Hf1 sd' σ H1->T Hf1 H1 a b->PoX K E H0 B σ Hf1 R (k (a,sd')) Q->Q1 b H1):PoX K E H0 B σ Hf T r Q1:=by
 cases r with
 |ok a=>exact fun b Hf' H' e sr q=>s a.1 a.2 b Hf' H' rfl e sr q (PoX.weak e h)
 |ex x=>exact h
 |bad=>exact h
theorem PoX.bindS {r:M (γ×DSt)}{k:γ×DSt->M O}{D:Ends}{Q1:δ->Hp->Prop}(h:PoS K E H0 B Hf (r.bind k) D)(s:∀a sd' b Hf1 H1,r=.ok (a,sd')->Same Hf Hf1->SR K H0 B Hf1 sd' σ H1->T Hf1 H1 a b->PoS K E H0 B Hf1 (k (a,sd')) D->Q1 b H1):PoX K E H0 B σ Hf T r Q1:=by
 cases r with
 |ok a=>exact fun b Hf' H' e sr q=>s a.1 a.2 b Hf' H' rfl e sr q (PoS.weak e h)
 |ex x=>exact h
 |bad=>exact h
end
section
variable {X:Cx} {E:XK} {pos:Pos} {a b:Expr}
def xPop (i:Nat)(sd:DSt):M (D×DSt):=match sd[i]? with
 |some (some (.ow ds))=>(match ds[ds.length - 1]? with
  |some d=>.ok (d,sd.set i (some (.ow ds.dropLast)))
  |none=>.bad)
 |_=>.bad
theorem reps_dropLast {K:PySem.W.Frag}{H:Hp}{ds:List D}{xs:List V}(r:Reps K H ds xs):Reps K H ds.dropLast xs.dropLast:=by
 rw[List.dropLast_eq_take,List.dropLast_eq_take,r.length]
 exact r.take _
theorem px_pop (i:Nat){x:Str}{p1 p2 p3:Pos}(hi:X.N[i]?=some x:=by rfl)(hv:Vis X.env.scope x:=by first|exact Or.inl rfl|exact Or.inr (Or.inl rfl)|exact Or.inr (Or.inr rfl))
  (hd:(x==("__debug__" : Str))=false:=by decide) (hcd:(x==("__classdict__" : Str))=false:=by decide)
  (hbase:attributeBase (.Name x p1) "pop" X.env (eval (.Name x p1) X.env)=eval (.Name x p1) X.env:=by rfl) (hline:(p2.endLine==p3.line)=true:=by rfl) :
  PXd X E (.Call (.Attribute (.Name x p1) "pop" p2) [] [] p3) (xPop i):=by
 refine⟨_,pe_bm0 PySem.F.plainAttrs_list PySem.F.slot_list_pop PySem.F.type_list_pop mt_pop (Ym hi hv hd hcd) hbase hline,fun H0 B Hf sd σ H Q sr h=>?_⟩
 unfold xPop at h
 split at h
 ·rename_i ds ei
  obtain⟨p,z1,z2,z3,xs,z4,z5⟩:=sr.ow i _ ei rfl
  split at h
  ·rename_i d ed
   obtain⟨v,ev,rv⟩:=z5.get ed
   refine⟨_,z1,.inl ⟨rfl,xs,SqL.of z4⟩,p,xs,v,rfl,rfl,z4,by rw[<-z5.length];exact ev,?_⟩
   exact h v Hf _ (Same.refl _) (sr.change ei rfl z1 rfl ⟨_,Zo,reps_dropLast z5⟩) rv
  ·exact h.elim
 ·exact h.elim
def xaLast (f:DSt->M (D×DSt))(sd:DSt):M (List D×DSt):=(f sd).bind fun r=>.ok ([r.1],r.2)
def Qe (fa:DSt->M D)(fr:DSt->M (List D×DSt))(sd:DSt):M (List D×DSt):=(fa sd).bind fun d=>(fr sd).bind fun r=>.ok (d::r.1,r.2)
theorem pxa_last {f:DSt->M (D×DSt)}(h:PXd X E a f)(hs:starEach [a] X.env=(false,eval a X.env)::starEach [] X.env:=by rfl):PXAd X E [a] (xaLast f):=by
 obtain⟨t,p,q⟩:=h
 refine⟨_,pa_cons p pa_nil hs,fun H0 B Hf sd σ H Q sr h=>?_⟩
 refine q H0 B Hf sd σ H _ sr (PoX.bindX h fun d sd' v Hf1 H1 _ e1 sr1 rv h1=>?_)
 exact h1 [v] Hf1 H1 (Same.refl _) sr1 (Reps.cons rv Reps.nil)
theorem Y1 {es:List Expr}{fa:DSt->M D}{fr:DSt->M (List D×DSt)}(ha:PEd X E a fa)(hr:PXAd X E es fr)(hs:starEach (a::es) X.env=(false,eval a X.env)::starEach es X.env:=by rfl):PXAd X E (a::es) (Qe fa fr):=by
 obtain⟨ta,pa,qa⟩:=ha
 obtain⟨tr,pr,qr⟩:=hr
 refine⟨_,pa_cons pa pr hs,fun H0 B Hf sd σ H Q sr h=>?_⟩
 refine qa H0 B Hf sd σ H _ sr (PoX.bind sr h fun d v Hf1 H1 _ g1 sr1 rv h1=>?_)
 refine qr H0 B Hf1 sd σ H1 _ sr1 (PoX.bindX h1 fun ds sd' vs Hf2 H2 _ e2 sr2 rs h2=>?_)
 exact h2 (v::vs) Hf2 H2 (Same.refl _) sr2 (Reps.cons (Rep.mono e2 rv) rs)
def xCall (F:List D->M S)(fs:DSt->M (List D×DSt))(sd:DSt):M (D×DSt):=(fs sd).bind fun r=>match F r.1 with
 |.ok s=>s.toD.bind fun d=>.ok (d,r.2)
 |_=>.bad
theorem px_call {k:Nat}{f:Addr}{fd:FuncData}{ps:List Str}{F:List D->M S}{x:Str}{p:Pos}{es:List Expr}{fs:DSt->M (List D×DSt)}(G:FnOk X.prog X.w X.K X.mg X.base CX0 k f fd ps (spN X.K F))(hr:Room k X.A)(hm:X.mg x=some (.ref f))(hk:PySem.W.keepIn X.K (.ref f)=true)(hb:Binds X.K fd ps [])(ha:PXAd X E (a::es) fs)(hg:Gl X x:=by rfl) (hdb:(x==("__debug__" : Str))=false:=by decide) (he:starEach (a::es) X.env=(false,eval a X.env)::starEach es X.env:=by rfl) (hpl:(backTo pos (starEach es X.env)).any (·.1)=false:=by rfl) :
  PXd X E (.Call (.Name x p) (a::es) [] pos) (xCall F fs):=by
 obtain⟨t,pt,qt⟩:=ha
 refine⟨_,pe_call (dvs:=[]) (E:=E0) G hr hg hm hk hb .nil pass0 pt hdb he hpl,fun H0 B Hf sd σ H Q sr h=>?_⟩
 refine qt H0 B Hf sd σ H _ sr (PoX.bindX h fun ds sd' vs Hf1 H1 _ e1 sr1 rs h1=>?_)
 dsimp only at h1
 split at h1
 ·rename_i s e
  refine⟨Hf1,ds,s,sr1.sub,by rw[List.append_nil];exact rs,e,fun v Hf' H' g2 rv=>?_⟩
  cases s with
  |im d=>exact h1 v Hf' H' g2.fz (sr1.gr g2) rv
  |ow es =>
   obtain⟨p,rfl,w1,w2,xs,w3,w4⟩:=rv
   have g3:Gr Hf1 H1 (upd Hf' p (.lst xs)) H':=by
    refine⟨g2.fz.trans (Z4 w2 _),fun b u q=>?_,g2.all,fun a h1 h2=>?_⟩
    ·by_cases hb:b=p
     ·subst hb;rw[Zo] at q;rw[w3];exact q
     ·rw[Zn hb] at q;exact g2.sub b u q
    ·have:a≠p:=fun z=>h1 (z▸w1)
     rw[Zn this];exact g2.ban a h1 h2
   exact h1 _ (upd Hf' p (.lst xs)) H' g3.fz (sr1.gr g3) (rep_lst.mpr ⟨p,xs,rfl,SqL.of Zo,w4.mono (Z4 w2 _)⟩)
  |od kvs=>exact h1.elim
  |dk kvs=>exact h1.elim
  |xc x=>exact h1.elim
  |fn x=>exact h1.elim
 ·exact h1.elim
def xOp (g:D->D->M D)(fa:DSt->M D)(fb:DSt->M (D×DSt))(sd:DSt):M (D×DSt):=(fa sd).bind fun x=>(fb sd).bind fun y=>(g x y.1).bind fun z=>.ok (z,y.2)
theorem px_op {op:Operator}{g:D->D->M D}{fa:DSt->M D}{fb:DSt->M (D×DSt)}(ho:OpD X E (binaryOp op) g)(ha:PEd X E a fa)(hb:PXd X E b fb):PXd X E (.BinOp a op b pos) (xOp g fa fb):=by
 obtain⟨r,hr,qr⟩:=ho
 obtain⟨ta,pa,qa⟩:=ha
 obtain⟨tb,pb,qb⟩:=hb
 refine⟨_,pe_op hr pa pb,fun H0 B Hf sd σ H Q sr h=>?_⟩
 refine qa H0 B Hf sd σ H _ sr (PoX.bind sr h fun dx x Hf1 H1 _ g1 sr1 rx h1=>?_)
 refine qb H0 B Hf1 sd σ H1 _ sr1 (PoX.bindX h1 fun dy sd' y Hf2 H2 _ e2 sr2 ry h2=>?_)
 refine qr Hf2 H2 x y dx dy Q sr2.sub (Rep.mono e2 rx) ry (PoX.bind sr2 h2 fun d v Hf3 H3 _ g3 sr3 rv h3=>?_)
 exact h3 v Hf3 H3 (Same.refl _) sr3 rv
def sSetX (i:Nat)(f:DSt->M (D×DSt))(sd:DSt):M O:=(f sd).bind fun r=>.ok (.nx (r.2.set i (some (.im r.1))))
theorem psx_set (i:Nat){x:Str}{e:Expr}{f:DSt->M (D×DSt)}{pos':Pos}(hN:X.N.Nodup)(h:PXd X E e f)(hi:X.N[i]?=some x:=by rfl)(hx:Loc X.env.scope x:=by first|exact Or.inl rfl|exact Or.inr rfl)(hs:swapsWith e (some (.Name x pos')) pos.line X.env=pure false:=by rfl)(hf:X.fn x=true\/X.env.scope.names.lookup x=some .local:=by first|exact .inl rfl|exact .inr rfl|assumption) :
  PSd X E (.Assign [.Name x pos'] e pos) (sSetX i f):=by
 obtain⟨t,p,q⟩:=h
 refine⟨_,ps_set hN hi hx p hs hf,fun H0 B Hf sd σ H D sr h=>?_⟩
 refine q H0 B Hf sd σ H _ sr (PoX.bindS h fun d sd' v Hf1 H1 _ e1 sr1 rv h1=>?_)
 exact h1 _ Hf1 H1 (Same.refl _) (sr1.set_im i rv)
end
end DL
set_option maxHeartbeats 4000000
set_option linter.all false
set_option maxRecDepth 100000
namespace DL
open PySem PySem.Spec PyProof.Rows L2
def filD (gt:D->DSt->M DSt)(fc:DSt->M Bool)(fe:DSt->M D)(sd0:DSt):List D->M (List D)
 |[]=>.ok []
 |d::ds=>match gt d sd0 with
  |.ok sd1=>match fc sd1 with
   |.ok true=>(match fe sd1 with
    |.ok e=>match filD gt fc fe sd0 ds with
     |.ok es=>.ok (e::es)
     |_=>.bad
    |_=>.bad)
   |.ok false=>filD gt fc fe sd0 ds
   |_=>.bad
  |_=>.bad
def Xe (fi:DSt->M (List D))(n0:Nat)(caps:List Nat)(gt:D->DSt->M DSt)(fc:DSt->M Bool)(fe:DSt->M D)(sd:DSt):M (List D):=(fi sd).bind fun ds=>if few ds then filD gt fc fe (sdC n0 caps sd) ds else .bad
theorem codeAny_comp_if {prog:Program}{w:World}{A:Around}{R:Result->Shared->Prop}{s:Shared}{elt target iter cnd:Expr}{scope:Scope}{pos:Pos}{it acc:Value}{env:Env}(I:Nat->Shared->Prop)
  (turn:∀n s,I n s->wpAny (model prog w) A (pyNext it) (fun r s₁=>match r with
   |none=>R (.ok .next) s₁
   |some v=>wpAny (model prog w) A (letOwnedTupleGo target it v) (fun _ s₂=>wpAny (model prog w) A (assign target env v) (fun _ s₃=>wpAny (model prog w) A (isTrue cnd env (eval cnd env)) (fun k s₃'=>if k=true then
     wpAny (model prog w) A (eval elt env) (fun x s₄=>wpAny (model prog w) A (call (.builtin "list.append") [acc,x]) (fun _ s₅=>∃m,m<n/\I m s₅) (fun _ _=>False) s₄) (fun _ _=>False) s₃' else ∃m,m<n/\I m s₃') (fun _ _=>False) s₃) (fun _ _=>False) s₂) (fun _ _=>False) s₁) (fun _ _=>False) s)
  (n:Nat) (h:I n s) :
  codeAny (model prog w) A (.compLoop (.ListComp elt [⟨target,iter,[cnd],0⟩] scope pos) 0 it acc env) R s:=by
 refine codeAny_loop rfl I (fun n s hI=>?_) n h
 change wpAny _ A ((compTurn (.ListComp elt [⟨target,iter,[cnd],0⟩] scope pos) 0 it acc env).onRaise (fun x=>do noteFrame x env;theTreesLotGoes x)) _ _ s
 refine wpAny_noted ?_
 rw[compTurn_list]
 refine wpAny_bind (wpAny_standAt (wpAny_bind (wpAny_mono (turn n s hI) (fun r s₁ h₁=>?_) fun _ _ h'=>h'.elim)))
 cases r with
 |none=>exact wpAny_pure h₁
 |some v =>
  refine wpAny_bind (wpAny_mono h₁ (fun _ s₂ h₂=>wpAny_bind (wpAny_mono h₂ (fun _ s₃ h₃=>?_) fun _ _ h'=>h'.elim)) fun _ _ h'=>h'.elim)
  refine wpAny_bind (wpAny_tests_one (wpAny_mono h₃ (fun k s₄ h₄=>?_) fun _ _ h'=>h'.elim))
  cases k with
  |true =>
   rw[if_pos rfl] at h₄
   simp only[if_true]
   exact wpAny_bind (wpAny_bind (wpAny_mono h₄ (fun x s₄ h₄=>wpAny_bind (wpAny_mono h₄ (fun _ s₅ h₅=>wpAny_pure (wpAny_pure ⟨rfl,h₅⟩)) fun _ _ h'=>h'.elim)) fun _ _ h'=>h'.elim))
  |false =>
   rw[if_neg (by decide)] at h₄
   simp only[Bool.false_eq_true,if_false]
   exact wpAny_pure ⟨rfl,h₄⟩
end DL
set_option maxHeartbeats 4000000
set_option linter.all false
set_option maxRecDepth 100000
namespace L2
open PySem PySem.Spec PyProof.Rows
abbrev OKey:=Option Key
def bI (b:Bool):Int:=if b then 1 else 0
section
variable {prog:Program} {w:World} {A:Around} {E:Value->Shared->Prop} {s:Shared}
end
variable {X:Cx}
end L2
set_option maxHeartbeats 4000000
set_option linter.all false
set_option maxRecDepth 100000
namespace DP
open PySem PySem.Spec
open PySem.Sem (wp)
section
variable {prog:Program} {w:World} {A:Around} {E:Value->Shared->Prop} {s:Shared}
end
end DP
set_option maxHeartbeats 4000000
set_option linter.all false
set_option maxRecDepth 100000
namespace DL
open PySem PySem.Spec PyProof.Rows L2
section
variable {X:Cx} {E:XK}
theorem RepKV.all {K:PySem.W.Frag}{H:Hp}:∀{rs:List (List Key×D)} {ys:List (List Key×V)},RepKV K H rs ys->∀{kvs:List (List Key×D)} {kys:List (List Key×V)},RepKV K H kvs kys->RepKV K H (rs.foldl (fun kvs r=>putD kvs r.1 r.2) kvs) (ys.foldl (fun kvs r=>putK kvs r.1 r.2) kys):=by
 intro rs ys h
 induction h with
 |nil=>intro kvs kys q;exact q
 | @cons r y rs ys h t ih =>
  intro kvs kys q
  rw[List.foldl_cons,List.foldl_cons]
  obtain⟨e,f⟩:=h
  rw[<-e]
  exact ih (RepKV.put q r.1 f)
def oD:D->Option OKey
 |.non=>some none
 |.bl b=>some (some (.inl (bI b)))
 |.int i=>some (some (.inl i))
 |.str x=>some (some (.inr x))
 |_=>none
end
end DL
set_option maxHeartbeats 4000000
set_option linter.all false
set_option maxRecDepth 100000
namespace HT
open PySem PySem.Spec PyProof.Rows
section
variable {prog:Program} {w:World} {A:Around} {E:Value->Shared->Prop} {s:Shared}
end
end HT
namespace DL
open PySem PySem.Spec PyProof.Rows L2
section
variable {X:Cx} {E:XK}
end
end DL
set_option maxHeartbeats 4000000
set_option linter.all false
set_option maxRecDepth 100000
namespace DL
open PySem PySem.Spec PySem.Calls PySem.Builtin PySem.Builtin.ObjectAttr PyProof.Rows L2 PySem.W
section
variable {X:Cx} {E:XK} {pos p p2:Pos} {a:Expr}
def isFnS (i:Nat)(nm:Str)(sd:DSt):Bool:=match sd[i]? with
 |some (some (.fn y))=>decide (y=nm)
 |_=>false
theorem isFnS_ok {K:Frag}{H0 Hf H:Hp}{B:Addr->Prop}{sd:DSt}{σ:L2.St}{i:Nat}{nm:Str}{f:Addr}(sr:SR K H0 B Hf sd σ H)(h:isFnS i nm sd=true)(hn:nsIn K mainGlobals nm=some (some (.ref f))):σ[i]?=some (some (.ref f)):=by
 unfold isFnS at h
 split at h
 ·rename_i y ei
  have e:=of_decide_eq_true h
  subst e
  obtain⟨v,e1,b,rfl,e2⟩:=sr.imS i _ ei rfl
  rw[hn] at e2
  cases e2
  exact e1
 ·cases h
def spFn (K:Frag)(nm:Str)(F:List D->M S):Sp:=fun vs H Q _=>∃Hf ds v r s,vs=v::r/\Same Hf H/\RepS K Hf (.fn nm) v/\Reps K Hf ds r/\F ds=.ok s/\∀v Hf' H',Gr Hf H Hf' H'->RS K H Hf' H' s v->Q v H'
def fnF (nm:Str)(n m:Nat)(f:DSt->M O)(ds:List D):M S:=if ds.length=n then fin' (f (some (.fn nm)::(ds.map (fun d=>some (S.im d))++List.replicate m none))) else .bad
theorem sr_startF {K:Frag}{N:List Str}{Hf H:Hp}{nm:Str}{ds:List D}{v:V}{vs:List V}{m:Nat}(e:Same Hf H)(rx:RepS K Hf (.fn nm) v)(r:Reps K Hf ds vs)(hN:N.length=ds.length+1+m) :
  SR K H (fun a=>H a≠none/\Hf a=none) Hf (some (.fn nm)::(ds.map (fun d=>some (S.im d))++List.replicate m none)) (L2.Yy N (v::vs)) H:=by
 have hlen:=r.length
 have es:L2.Yy N (v::vs)=some v::(vs.map some++List.replicate m none):=by
  unfold L2.Yy
  rw[List.map_cons,List.cons_append,show N.length - (v::vs).length=m by rw[List.length_cons];lia]
 rw[es]
 refine SR.ofS e (by simp[hlen]) fun i t h=>?_
 cases i with
 |zero =>
  rw[List.getElem?_cons_zero] at h
  cases h
  exact⟨rfl,v,rfl,rx⟩
 |succ i =>
  rw[List.getElem?_cons_succ] at h ⊢
  by_cases hl:i<ds.length
  ·rw[List.getElem?_append_left (by simpa using hl),List.getElem?_map] at h
   cases q:ds[i]? with
   |none=>rw[q] at h;cases h
   |some d =>
    rw[q] at h
    cases h
    obtain⟨y,e1,e2⟩:=r.get q
    have:i<vs.length:=(List.getElem?_eq_some_iff.mp e1).1
    exact⟨rfl,y,by rw[List.getElem?_append_left (by simpa using this),List.getElem?_map,e1];rfl,e2⟩
  ·rw[List.getElem?_append_right (by simpa using hl),List.getElem?_replicate] at h
   split at h<;>cases h
theorem fn_f {P:Program}{w:World}{K:Frag}{mg:Str->Option Value}{base:Heap}{x qual nm:Str}{st:Stmt}{f:Addr}{fd:FuncData}{N ps:List Str}{k m n:Nat}{fb:DSt->M O}(F:Fun K x qual st f fd)(sc:FnScope N ps (Zh st))(hn:ps.length=n+1)(hN:N.length=n+1+m)(hbody:∀(cdv:Value) (A:Around) (outer:List Env) (s:Shared) (H:Hp) (E:XK),Room k (A.deeper (envOfC qual (Zh st) s.heap.objs.size f cdv)) ->
   PSsd (cxOf CX0 P w K mg base N qual (Zh st) f cdv A outer s H E).nox E0 (Zz st) fb):FnOk P w K mg base CX0 (k+1) f fd ps (spFn K nm (fnF nm n m fb)):=by
 refine F.ok sc (fun vs H Q E h=>?_) (fun cdv A outer s H vs Q E hr h=>?_)
 ·obtain⟨Hf,ds,v,r,s,rfl,e,_,rs,hF,_⟩:=h
  unfold fnF at hF
  split at hF
  ·rename_i hl
   rw[List.length_cons,<-rs.length,hl,hn]
  ·cases hF
 ·obtain⟨Hf,ds,v,r,s',rfl,e,rx,rs,hF,q⟩:=h
  obtain⟨t,p,qt⟩:=hbody cdv A outer s H E hr
  unfold fnF at hF
  split at hF
  ·rename_i hl
   refine⟨t,p,qt H _ Hf _ (L2.Yy N (v::r)) H _ (sr_startF (N:=N) (m:=m) e rx rs (by lia)) ?_⟩
   generalize fb (some (S.fn nm)::(List.map (fun d=>some (S.im d)) ds++List.replicate m none))=ro at hF
   have back:∀{v:V} {Hf' H':Hp} {s:DL.S},Same Hf Hf'->Fin' H (fun a=>H a≠none/\Hf a=none) Hf' H'->RS K H Hf' H' s v->s=s'->Q v H':=fun {v Hf' H' s} e1 e2 e3 e4=>by
    subst e4
    exact q v Hf' H' ⟨e1,e2.sub,e2.all,fun a h1 h2=>e2.ban a ⟨h1,h2⟩⟩ e3
   cases ro with
   |ok o =>
    cases o with
    |rt s2 =>
     have e':s2=s':=by cases hF;rfl
     exact fun v Hf' H' e1 e2 e3=>back e1 e2 e3 e'
    |nx sd' =>
     have e':DL.S.im .non=s':=by cases hF;rfl
     exact fun σ' Hf' H' e1 sr'=>back (v:=.non) (s:=DL.S.im .non) e1 sr'.fin (show Rep K Hf' .non .non from rep_non.mpr rfl) e'
    |bk sd'=>cases hF
    |ct sd'=>cases hF
   |ex x=>cases hF
   |bad=>cases hF
  ·cases hF
def eCallF (F:List D->M S)(fs:DSt->M (List D))(sd:DSt):M D:=(fs sd).bind fun ds=>(match F ds with
  |.ok (.im d)=>.ok d
  |_=>.bad)
theorem pd_callF {k:Nat}{f g:Addr}{fd:FuncData}{ps:List Str}{F:List D->M S}{x nm:Str}{es:List Expr}{fs:DSt->M (List D)}(G:FnOk X.prog X.w X.K X.mg X.base CX0 k f fd ps (spFn X.K nm F))(hr:Room k X.A)(hm:X.mg x=some (.ref f))(hk:keepIn X.K (.ref f)=true)(hb:Binds X.K fd ps [])(hn:nsIn X.K mainGlobals nm=some (some (.ref g)))(hmn:X.mg nm=some (.ref g))(ha:PAd X E es fs)(hg:Gl X x:=by rfl)(hgn:Gl X nm:=by rfl) (hdn:(nm==("__debug__" : Str))=false:=by decide) (hdb:(x==("__debug__" : Str))=false:=by decide) (he:starEach (.Name nm p2::es) X.env=(false,eval (.Name nm p2) X.env)::starEach es X.env:=by rfl) (hpl:(backTo pos (starEach es X.env)).any (·.1)=false:=by rfl) :
  PEd X E (.Call (.Name x p) (.Name nm p2::es) [] pos) (eCallF F fs):=by
 obtain⟨t,pt,qt⟩:=ha
 refine⟨_,pe_call (dvs:=[]) (E:=E0) G hr hg hm hk hb .nil pass0 (pa_cons (pe_glob (v:=.ref g) hgn hmn rfl hdn) pt he) hdb he hpl,fun H0 B Hf sd σ H Q sr h=>?_⟩
 unfold eCallF at h
 refine qt H0 B Hf sd σ H _ sr (Po.bind h fun ds vs Hf1 H1 _ g1 rs h1=>?_)
 split at h1
 ·rename_i d eF
  exact⟨Hf1,ds,.ref g,vs,.im d,by rw[List.append_nil],g1.sub,⟨g,rfl,hn⟩,rs,eF,fun v2 Hf' H' g2 rv=>h1 v2 Hf' H' g2 rv⟩
 ·exact h1.elim
end
end DL
set_option maxHeartbeats 4000000
set_option linter.all false
set_option maxRecDepth 100000
namespace DL
open PySem PySem.Spec PySem.Calls PySem.Builtin PySem.Builtin.ObjectAttr PyProof.Rows L2 PySem.W
section
variable {X:Cx} {E:XK} {pos:Pos}
end
end DL
set_option maxHeartbeats 4000000
set_option linter.all false
set_option maxRecDepth 100000
namespace DL
open PySem PySem.Spec PySem.Calls PySem.Builtin PySem.Builtin.ObjectAttr PyProof.Rows L2 PySem.W
theorem psd_setC (i:Nat){X:Cx}{E:XK}{pos py spos:Pos}{tg elt iter:Expr}{scope:Scope}{Nc:List Str}{n0:Nat}{caps:List Nat}{cl:List (Str×Addr)}{fi:DSt->M (List D)}{gt:D->DSt->M DSt}{fe:DSt->M D}{y:Str}(hN:X.N.Nodup)(hc:X.calm=true)(hclos:closureFor scope X.env=pure cl)(cap:CapOk X Nc n0 caps scope cl)(hkind:scope.kind=.function)(hcell:∀y∈scope.names,y.2≠.cell)(hnames:∀y∈scope.names,y.2=.local->scope.names.lookup y.1=some .local)(hk:Keep n0 gt)(hi:PId X E tg iter fi)(hg:∀s3 H3 C ex,PGd (compCx X Nc scope cl s3 H3 C ex) tg gt)(he:∀s3 H3 C ex,PEd (compCx X Nc scope cl s3 H3 C ex) E0 elt fe)(hs:∀x,foldedSetIterable iter X.env x=pure x:=by intro _;rfl)(hy:X.N[i]?=some y:=by rfl)(hloc:Loc X.env.scope y:=by first|exact Or.inl rfl|exact Or.inr rfl)(hfy:X.fn y=true\/X.env.scope.names.lookup y=some .local:=by first|exact .inl rfl|exact .inr rfl)(hsw:swapsWith (.ListComp elt [⟨tg,iter,[],0⟩] scope pos) (some (.Name y py)) spos.line X.env=pure true:=by rfl) :
  PSd X E (.Assign [.Name y py] (.ListComp elt [⟨tg,iter,[],0⟩] scope pos) spos) (Qk i (eNew (fComp fi n0 caps gt fe))):=by
 refine⟨fun D' σ H=>∃H0 B Hf sd,SR X.K H0 B Hf sd σ H/\PoS X.K E H0 B Hf (Qk i (eNew (fComp fi n0 caps gt fe)) sd) D',?_,fun H0 B Hf sd σ H D' sr h=>⟨H0,B,Hf,sd,sr,h⟩⟩
 rintro pins s σ H D' I ⟨H0,B,Hf,sd,sr,h⟩
 obtain⟨wi,pw,qw⟩:=hi
 rw[exec_Assign_Name_used _ _ _ _ hsw]
 refine wpAny_bind (wpAny_standAt (wpAny_bind ?_))
 show wpAny _ _ (do let _ <-comprehension (.ListComp elt [⟨tg,iter,[],0⟩] scope pos) scope X.env _ (newList []) false (eval iter X.env) (some (assign (.Name y py) X.env))) _ _ s
 refine wpAny_bind (wpAny_mono (wpAny_comprehension_free (use:=some (assign (.Name y py) X.env)) (Q:=fun _ s'=>SP X pins D' .next s') rfl hs hclos hkind hnames ?_) (fun _ s' hq=>wpAny_pure (wpAny_pure hq)) fun _ _ e=>e)
 have h':PoS X.K E H0 B Hf ((fi sd).bind fun ds=>(if few ds then mapD gt fe (sdC n0 caps sd) ds else .bad).bind fun es=>.ok (.nx (sd.set i (some (.im (.lst es)))))) D':=by
  unfold Qk eNew fComp at h
  cases q:fi sd with
  |ok ds =>
   rw[q] at h
   rw[M.bind_ok] at h ⊢
   cases q2:(if few ds then mapD gt fe (sdC n0 caps sd) ds else M.bad) with
   |ok es=>rw[q2] at h;exact h
   |ex x=>rw[q2] at h;exact h
   |bad=>rw[q2] at h;exact h
  |ex x=>rw[q] at h;exact h
  |bad=>rw[q] at h;exact h
 have step:=pw pins s σ H (fun J H2=>∃ds Hf2,Gr Hf H Hf2 H2/\ItOk X.K Hf2 H2 ds J/\PoS X.K E H0 B Hf2 ((if few ds then mapD gt fe (sdC n0 caps sd) ds else .bad).bind fun es=>.ok (.nx (sd.set i (some (.im (.lst es)))))) D') I
  (qw H0 B Hf sd σ H _ sr (PoS.bind sr h' fun ds J Hf2 H2 _ g2 _ jok h2=>⟨ds,Hf2,g2,jok,h2⟩))
 refine thn step fun v s1 h1=>thn h1 fun itv s2 h2=>?_
 obtain⟨it,fp,tn,J,H2,rfl,I2,T,st2,f2,ds,Hf2,g2,jok,hq⟩:=h2
 have sr2:=sr.gr g2
 split at hq
 case isFalse=>exact hq.elim
 case isTrue hfew =>
 have fresh:H2 s2.heap.objs.size=none:=I2.hok.fresh (Nat.le_refl _)
 have holdf:∀b∈fp,∃o,s2.heap.get? b=some o:=fun b hb=>let ⟨o,e,_⟩:=T.obj 0 _ st2 b hb;⟨o,e⟩
 refine wpAny_newObj_type (wpAny_newFunctionEnv hcell (by intro y hy;simp at hy) (fun h₁ hns₁ hsb₁=>?_) hkind)
 have hC:(s2.heap.push Qj).objs.size=s2.heap.objs.size+1:=Heap.size_push _ _
 have hns:h₁.Ns (s2.heap.objs.size+1) (fun x=>([]:List (Str×Value)).reverse.lookup x):=hC▸hns₁
 have hsb:Heap.SameBut (s2.heap.objs.size+1) ((s2.heap.push Qj).push { cls:=.type "dict", data:=.dict #[] }) h₁:=hC▸hsb₁
 have hold1:∀b o,s2.heap.get? b=some o->h₁.get? b=some o:=fun b o e=>by
  have hb:b<s2.heap.objs.size:=Heap.lt_size e
  exact(hsb.2 b (Nat.ne_of_lt (Nat.lt_succ_of_lt hb))).trans (Heap.get?_push_of_some _ (Heap.get?_push_of_some _ e))
 have hD:h₁.get? s2.heap.objs.size=some Qj:=(hsb.2 _ (Nat.ne_of_lt (Nat.lt_succ_self _))).trans (Heap.get?_push_of_some _ (Heap.get?_push_size _ rfl))
 have J0:=comp_inv I2 f2 holdf hkind cap (tk:=s2.toks+([]:List (Str×Value)).length) hns hold1 hD
 have hg:=hg { s2 with heap:=s2.heap.push Qj } (upd H2 s2.heap.objs.size (.lst [])) (s2.heap.objs.size+1) fp
 have he:=he { s2 with heap:=s2.heap.push Qj } (upd H2 s2.heap.objs.size (.lst [])) (s2.heap.objs.size+1) fp
 generalize hXc:compCx X Nc scope cl { s2 with heap:=s2.heap.push Qj } (upd H2 s2.heap.objs.size (.lst [])) (s2.heap.objs.size+1) fp=Xc at J0 hg he
 have eP:Xc.prog=X.prog:=by subst hXc;rfl
 have eW:Xc.w=X.w:=by subst hXc;rfl
 have eK:Xc.K=X.K:=by subst hXc;rfl
 have eA:Xc.A=X.A:=by subst hXc;rfl
 have eX:Xc.xe=fun _ _=>False:=by subst hXc;rfl
 have eE:Xc.env=compEnvC scope cl (s2.heap.objs.size+1) X.env:=by subst hXc;rfl
 have eC:Xc.calm=true:=by subst hXc;exact hc
 have fpc:∀{H':Hp},(∀b∈fp,H' b=none)->∀b∈fp,FpOk Xc [] H' b:=fun {H'} hn b hb=>by
  subst hXc
  obtain⟨f0,f1,f2',f3,f4,f5⟩:=f2 b hb
  obtain⟨o,eo⟩:=holdf b hb
  refine⟨hn b hb,Nat.ne_of_lt (Nat.lt_succ_of_lt (Heap.lt_size eo)),fun hz=>?_,.inl hb,fun x c e=>f4 x c (cap.sub x c e),fun p hp=>absurd (show p∈([]:List (Addr×Obj)) from hp) (by simp)⟩
  rcases List.mem_cons.mp (I2.stkSub b hz) with e|hz
  ·exact f1 e
  ·exact f2' hz
 have nfp:∀b∈fp,b≠s2.heap.objs.size:=fun b hb=>by
  obtain⟨o,eo⟩:=holdf b hb
  exact Nat.ne_of_lt (Heap.lt_size eo)
 obtain⟨tg',pg,qg⟩:=hg
 obtain⟨te,pe,qe⟩:=he
 have loop:∀s₃:Shared,s₃={ s2 with heap:=h₁,toks:=s2.toks+([]:List (Str×Value)).length } ->
   codeAny (model X.prog X.w) X.A (.compLoop (.ListComp elt [⟨tg,iter,[],0⟩] scope pos) 0 (.ref it) (.ref s2.heap.objs.size) (compEnvC scope cl (s2.heap.objs.size+1) X.env))
    (compPost (model X.prog X.w) X.A X.xe (some (assign (.Name y py) X.env)) (fun _ s'=>SP X pins D' .next s') (.ref s2.heap.objs.size) (s2.heap.objs.size+1)) s₃:=by
  rintro s₃ rfl
  refine codeAny_comp_any (fun n s'=>∃k vs es H' Hf' σ',n=ds.length - k/\k<=ds.length/\Inv Xc [] σ' H' s'/\tn k s'.heap/\(∀b∈fp,H' b=none) /\
   H' s2.heap.objs.size=some (.lst vs)/\Hf' s2.heap.objs.size=none/\Gr Hf2 H2 Hf' H'/\Reps X.K Hf' es vs/\vs.length=k /\
   (sdC n0 caps sd).length=σ'.length/\(∀(j:Nat) (d:D),(sdC n0 caps sd)[j]?=some (some (.im d))->∃v,σ'[j]?=some (some v)/\Rep X.K Hf' d v) /\
   PoS X.K E H0 B Hf2 ((mapD gt fe (sdC n0 caps sd) (ds.drop k)).bind fun fs=>.ok (.nx (sd.set i (some (.im (.lst (es++fs))))))) D') ?_ ds.length ?_
  ·rintro n s' ⟨k,vs,es,H',Hf',σ',rfl,hil,J1,st1,fr1,hd1,hf1,g1,rs1,hl1,hlen1,him1,hq1⟩
   have jj:=jok k Hf' H' g1.fz g1.sub
   cases q:ds[k]? with
   |none =>
    rw[q] at jj
    have tdone:=T.done Xc eP eW eK eC k [] s' _ H' (fun _ _=>False) J1 (fpc fr1) st1 jj
    rw[eA] at tdone
    refine wpAny_mono tdone (fun r s4 hr=>?_) fun _ _ z=>z
    obtain⟨rfl,J4⟩:=hr
    rw[List.drop_eq_nil_of_le (List.getElem?_eq_none_iff.mp q)] at hq1
    subst hXc
    obtain⟨m,hn4,_⟩:=J4.loc
    have I4:Inv X pins σ H' s4:=comp_back I2 f2 J4 (h':=s4.heap) ⟨rfl,fun _ _=>rfl⟩
    have fC:Fresh X pins (s2.heap.objs.size+1):=fresh_of I2 (Nat.le_succ _)
    have nC:H' (s2.heap.objs.size+1)=none:=J4.free
    show wpAny (model X.prog X.w) X.A (assign (.Name y py) X.env (.ref s2.heap.objs.size)) _ _ s4
    refine wpAny_assign_Name (store_ok2 (v:=.ref s2.heap.objs.size) I4 hN hy hloc rfl (fun s5 I5 hw=>?_) hfy)
    obtain⟨a5,sb5,ha5⟩:=hw
    have neC:s2.heap.objs.size+1≠a5:=by
     rcases ha5 with e|e
     ·rw[e];exact fC.nl
     ·exact(fC.nc _ _ e).symm
    refine⟨m,hn4.sameBut sb5 neC,fun h6 sb6=>?_⟩
    have I6:Inv X pins (σ.set i (some (.ref s2.heap.objs.size))) H' { s5 with heap:=h6 }:=inv_ch (a:=s2.heap.objs.size+1) (T:=s2.heap.objs.size+1) I5 ⟨fun b o n1 n2 _ e=>(sb6.2 b n1).trans e,fun b o n1 n2 e=>⟨o.slots,(sb6.2 b n1).trans e⟩⟩ nC nC fC fC
    have hq2:PoS X.K E H0 B Hf2 (.ok (.nx (sd.set i (some (.im (.lst es)))))) D':=by
     have:es++([]:List D)=es:=List.append_nil es
     rw[<-this];exact hq1
    have g:Gr Hf2 H2 (upd Hf' s2.heap.objs.size (.lst vs)) H':=by
     refine⟨g1.fz.trans (Z4 hf1 _),fun b u z=>?_,g1.all,fun a h1 h2=>?_⟩
     ·by_cases hb:b=s2.heap.objs.size
      ·subst hb;rw[Zo] at z;rw[hd1];exact z
      ·rw[Zn hb] at z;exact g1.sub b u z
     ·have:a≠s2.heap.objs.size:=fun z=>h1 (z▸fresh)
      rw[Zn this];exact g1.ban a h1 h2
    exact⟨_,H',I6,hq2 _ _ H' g.fz ((sr2.gr g).set_im i (rep_lst.mpr ⟨_,vs,rfl,SqL.of Zo,rs1.mono (Z4 hf1 _)⟩))⟩
   |some d =>
    rw[q] at jj
    obtain⟨go,yl⟩:=jj
    have hlt:k<ds.length:=(List.getElem?_eq_some_iff.mp q).1
    have hdr:ds.drop k=d::ds.drop (k+1):=by
     rw[List.drop_eq_getElem_cons hlt]
     congr 1
     exact(List.getElem?_eq_some_iff.mp q).2
    obtain⟨sd1,e1,eg,ee,hq2⟩:∃sd1 e1,gt d (sdC n0 caps sd)=.ok sd1/\fe sd1=.ok e1/\PoS X.K E H0 B Hf2 ((mapD gt fe (sdC n0 caps sd) (ds.drop (k+1))).bind fun fs=>.ok (.nx (sd.set i (some (.im (.lst ((es++[e1])++fs))))))) D':=by
     rw[hdr] at hq1
     unfold mapD at hq1
     split at hq1
     ·rename_i sd1 eg
      split at hq1
      ·rename_i e1 ee
       refine⟨sd1,e1,eg,ee,?_⟩
       cases em:mapD gt fe (sdC n0 caps sd) (ds.drop (k+1)) with
       |ok fs =>
        rw[em] at hq1
        have:(es++[e1])++fs=es++e1::fs:=by simp
        rw[M.bind_ok,this]
        exact hq1
       |ex x=>exact(mapD_noex em).elim
       |bad=>rw[em] at hq1;exact hq1.elim
      ·exact hq1.elim
     ·exact hq1.elim
    have titem:=T.item Xc eP eW eK eC k [] s' _ H' (fun _ _=>False) J1 (fpc fr1) st1 go
    rw[eA] at titem
    refine wpAny_mono titem (fun r s4 hr=>?_) fun _ _ z=>z
    obtain⟨u,rfl,h4⟩:=hr
    refine wpAny_mono h4 (fun _ s5 h5=>?_) fun _ _ z=>z
    obtain⟨x,H5,J5,r5,y5,st5,fr5⟩:=h5
    obtain⟨Hf5,g5,rx⟩:=yl x H5 y5
    have J5':=J5.pinned (fpc fr5) (T.obj _ _ st5)
    have hD5:H5 s2.heap.objs.size=some (.lst vs):=g5.all _ _ hd1
    have hf5:Hf5 s2.heap.objs.size=none:=g5.ban _ (by rw[hd1];simp) hf1
    have him5:∀(j:Nat) (d:D),(sdC n0 caps sd)[j]?=some (some (.im d))->∃v,σ'[j]?=some (some v)/\Rep X.K Hf5 d v:=fun j d z=>let ⟨v,z1,z2⟩:=him1 j d z;⟨v,z1,z2.mono g5.fz⟩
    have sr5:SR Xc.K H5 (fun a=>H5 a≠none/\Hf5 a=none) Hf5 (sdC n0 caps sd) σ' H5:=eK▸SR.ofIm g5.sub hlen1 him5 sdC_no
    obtain⟨kl,kk,kn⟩:=hk d _ sd1 eg
    have hg2:=pg _ s5 σ' H5 x u (fun σ6 H6=>te σ6 H6 fun v7 H7=>∃Hf7,Gr Hf5 H5 Hf7 H7/\Rep X.K Hf7 e1 v7/\(sdC n0 caps sd).length=σ6.length/\(∀(j:Nat) (d:D),(sdC n0 caps sd)[j]?=some (some (.im d))->∃v,σ6[j]?=some (some v)/\Rep X.K Hf7 d v)) J5' r5
     (qg H5 _ Hf5 _ σ' H5 x d sd1 _ sr5 (eK▸rx) eg fun σ6 sr6=>qe H5 _ Hf5 sd1 σ6 H5 _ sr6 (by
      rw[ee]
      intro v7 Hf7 H7 g7 r7
      have r7:Rep Xc.K Hf7 e1 v7:=r7
      rw[eK] at r7
      refine⟨Hf7,g7,r7,by rw[<-kl];exact sr6.len,fun j d z=>?_⟩
      have z2:sd1[j]?=some (some (.im d)):=by rw[kk j (sdC_lt z)];exact z
      obtain⟨v,z3,z4⟩:=sr6.im j d z2
      rw[eK] at z4
      exact⟨v,z3,z4.mono g7.fz⟩))
    rw[eP,eW,eA,eX,eE] at hg2
    refine wpAny_mono hg2 (fun _ s6 h6=>?_) fun _ _ z=>z
    obtain⟨σ6,H6,J6,q6⟩:=h6
    have he2:=pe _ s6 σ6 H6 _ J6 q6
    rw[eP,eW,eA,eX,eE] at he2
    refine wpAny_mono he2 (fun y s7 h7=>?_) fun _ _ z=>z
    obtain⟨v7,H7,J7,r7,Hf7,g7,rv7,hl7,him7⟩:=h7
    have hD7:H7 s2.heap.objs.size=some (.lst vs):=g7.all _ _ hD5
    have hf7:Hf7 s2.heap.objs.size=none:=g7.ban _ (by rw[hD5];simp) hf5
    have happ:=mt_append (X:=Xc) _ s7 σ6 H7 (.ref s2.heap.objs.size) [v7] (.ref s2.heap.objs.size) [y] (fun _ H8=>H8=upd H7 s2.heap.objs.size (.lst (vs++[v7]))) J7 rfl (.cons r7 .nil)
     ⟨_,vs,v7,rfl,rfl,hD7,by
      have h1:=of_decide_eq_true hfew
      have h2:=sizeLine_eq
      lia,rfl⟩
    rw[eP,eW,eA,eX] at happ
    refine wpAny_mono happ (fun _ s8 h8=>?_) fun _ _ z=>z
    obtain⟨_,H8,J8,_,e8⟩:=h8
    subst e8
    have g17:=(g1.trans g5).trans g7
    refine⟨ds.length - (k+1),by lia,k+1,vs++[v7],es++[e1],_,Hf7,σ6,rfl,hlt,J8.unpinned,?_,fun b hb=>?_,Zo,hf7,⟨g17.fz,fun b o z=>?_,fun b o z=>?_,g17.ban⟩,?_,by rw[List.length_append,hl1];rfl,hl7,him7,hq2⟩
    ·exact T.keep _ _ _ st5 fun b hb o e=>(J8.pin (b,o) (List.mem_append_right _ (List.mem_append_right _ (Yn hb e)))).1
    ·obtain⟨o,e,_⟩:=T.obj _ _ st5 b hb
     exact(J8.pin (b,o) (List.mem_append_right _ (List.mem_append_right _ (Yn hb e)))).2.1
    ·have:b≠s2.heap.objs.size:=Zy z hf7
     rw[Zn this];exact g17.sub b o z
    ·have:b≠s2.heap.objs.size:=Zy z fresh
     rw[Zn this];exact g17.all b o z
    ·exact(rs1.mono (g5.fz.trans g7.fz)).append (Reps.cons rv7 Reps.nil)
  ·refine⟨0,[],[],_,Hf2,_,by simp,Nat.zero_le _,J0,T.keep 0 _ _ st2 fun b hb o e=>hold1 b o e,fun b hb=>?_,Zo,g2.sub.free fresh,⟨Same.refl _,fun b o z=>?_,Z4 fresh _,fun _ _ z=>z⟩,Reps.nil,rfl,?_,fun j d z=>?_,?_⟩
   ·rw[Zn (nfp b hb)];exact(f2 b hb).1
   ·have:b≠s2.heap.objs.size:=Zy (g2.sub b o z) fresh
    rw[Zn this];exact g2.sub b o z
   ·unfold sdC;simp only[List.length_append,List.length_replicate,List.length_map]
   ·obtain⟨k,j',d',rfl,ej,es,ed⟩:=sdC_at z
    cases ed
    obtain⟨v,z1,z2⟩:=sr2.im j' d es
    refine⟨v,?_,z2⟩
    rw[List.getElem?_append_right (by simp),List.length_replicate,Nat.add_sub_cancel_left,List.getElem?_map,ej]
    simp[z1]
   ·rw[List.drop_zero]
    exact hq
 show codeAny (model X.prog X.w) X.A (.compStart (.ListComp elt [⟨tg,iter,[],0⟩] scope pos) 0 (.ref it) (.ref s2.heap.objs.size) (compEnvC scope cl (s2.heap.push Qj).objs.size X.env))
  (compPost (model X.prog X.w) X.A X.xe (some (assign (.Name y py) X.env)) (fun _ s'=>SP X pins D' .next s') (.ref s2.heap.objs.size) (s2.heap.push Qj).objs.size) { s2 with heap:=h₁,toks:=s2.toks+([]:List (Str×Value)).length }
 rw[hC]
 exact codeAny_compStart_list (loop _ rfl) (T.self X.A 0 _ _ _ (T.keep 0 _ _ st2 fun b hb o e=>hold1 b o e) (loop _ rfl))
end DL
set_option maxHeartbeats 4000000
set_option linter.all false
set_option maxRecDepth 100000
namespace DL
open PySem PySem.Spec PySem.Calls PySem.Builtin PySem.Builtin.ObjectAttr PyProof.Rows L2 PySem.W
def sTryL (l:Nat)(nm:Str)(F:List D->M S)(fs:DSt->M (List D))(j i:Nat)(cs:List Str)(g:DSt->M O)(sd:DSt):M O:=if isFnS l nm sd then sTry F fs j i cs g sd else .bad
section
variable {X:Cx} {E:XK} {a:Expr}
theorem ld_fnE {E':Value->Shared->Prop}{pins:List (Addr×Obj)}{s:Shared}{σ:L2.St}{H:Hp}{x:Str}{i:Nat}{f:Addr}{pos:Pos}{Q:Value->Shared->Prop}(I:Inv X pins σ H s)(hN:X.N[i]?=some x)(hv:Vis X.env.scope x)(h0:σ[i]?=some (some (.ref f)))(h:Q (.ref f) s) (hd:(x==("__debug__" : Str))=false:=by decide) (hcd:(x==("__classdict__" : Str))=false:=by decide):wpAny (model X.prog X.w) X.A (eval (.Name x pos) X.env) Q E' s:=by
 obtain⟨m,hn,hl⟩:=I.loc
 obtain⟨u,r,l⟩:=hl i x _ hN h0 hv
 cases r
 rcases l with⟨hk,hm⟩|⟨hk,c,hc,hcell⟩
 ·exact wpAny_Name (wpAny_loadName_local I.ok.kind hk hn hm h) hd
 ·rcases hk with hk|hk
  ·exact wpAny_Name (wpAny_loadName_cell I.ok.kind hk hc hcell h) hd
  ·exact wpAny_Name (wpAny_loadName_free I.ok.kind hk hc hcell h hcd) hd
theorem psd_tryL (l:Nat){k:Nat}{f Dc:Addr}{fd:FuncData}{ps:List Str}{F:List D->M S}{fn nm x n c:Str}{p1 p2 p3 cpos apos hpos pos:Pos}{es:List Expr}{fs:DSt->M (List D)}{b₀:Stmt}{suite:List Stmt}{g:DSt->M O}{i j:Nat}{cs:List Str}(G:FnOk X.prog X.w X.K X.mg X.base (CX1 X.prog X.w) k f fd ps (spX X.K F))(hr:Room k X.A)(hnm:nsIn X.K mainGlobals nm=some (some (.ref f)))(hk:keepIn X.K (.ref f)=true)(hb:Binds X.K fd ps [])(ha:PAd X.nox E0 (a::es) fs)(hN:X.N.Nodup)(hD:X.mg c=some (.ref Dc))(hC:∀y∈cs,∃C,nsIn X.K mainGlobals y=some (some (.ref C))/\Hits X.K C Dc)(hs:∀e,PSsd (sui X e) E0 (b₀::suite) g)(hj:X.N[j]?=some x:=by rfl)(hx:Loc X.env.scope x:=by first|exact Or.inl rfl|exact Or.inr rfl)(hi:X.N[i]?=some n:=by rfl)(hn:X.env.kindOf n=some .local:=by rfl)(hNl:X.N[l]?=some fn:=by rfl)(hvl:Vis X.env.scope fn:=by first|exact Or.inl rfl|exact Or.inr (Or.inl rfl)|exact Or.inr (Or.inr rfl)) (hcd:(fn==("__classdict__" : Str))=false:=by decide) (hgD:Gl X c:=by rfl) (hst:X.stack=X.env::X.outer:=by rfl) (hfr:X.env.frame=some X.env.locals:=by rfl)
  (hdb:(fn==("__debug__" : Str))=false:=by decide) (hdc:(c==("__debug__" : Str))=false:=by decide) (hsw:swapsWith (.Call (.Name fn p2) (a::es) [] cpos) (some (.Name x p1)) apos.line X.env=pure false:=by rfl)
  (hfx:X.fn x=true\/X.env.scope.names.lookup x=some .local:=by first|exact .inl rfl|exact .inr rfl)
  (he:starEach (a::es) X.env=(false,eval a X.env)::starEach es X.env:=by rfl) (hpl:(backTo cpos (starEach es X.env)).any (·.1)=false:=by rfl) :
  PSd X E (.Try [.Assign [.Name x p1] (.Call (.Name fn p2) (a::es) [] cpos) apos] [.ExceptHandler (some (.Name c p3)) (some n) (b₀::suite) hpos] [] [] pos) (sTryL l nm F fs j i cs g):=by
 refine⟨fun D' σ H=>∃H0 B Hf sd,SR X.K H0 B Hf sd σ H/\PoS X.K E H0 B Hf (sTryL l nm F fs j i cs g sd) D',?_,fun H0 B Hf sd σ H D' sr h=>⟨H0,B,Hf,sd,sr,h⟩⟩
 rintro pins s σ H D' I ⟨H0,B,Hf,sd,sr,po⟩
 unfold sTryL at po
 split at po
 case isFalse=>exact po.elim
 rename_i hfn
 have h0:=isFnS_ok sr hfn hnm
 obtain⟨ta,pa,qa⟩:=ha
 refine wpAny_Try_except (wpAny_execs_cons (wpAny_Assign_Name ?_ hsw))
 refine wpAny_Call_Name_kw (ld_fnE I hNl hvl h0 ?_ hdb hcd)
 unfold sTry at po
 split at po
 case h_2=>exact po.elim
 rename_i ds ef
 have hargs:=pa cpos pins s σ H (fun vs H1=>∃Hf1,Gr Hf H Hf1 H1/\Reps X.K Hf1 ds vs) (I.wish _) (qa H0 B Hf sd σ H _ sr (by
  rw[ef]
  exact fun vs Hf1 H1 g1 rs=>⟨Hf1,g1,rs⟩))
 refine PySem.W.callWith_K (h₀:=X.base) I.ok.mod.kin hk (wpAny_mono hargs (fun us s1 h1=>?_) fun _ _ z=>False.elim z) he hpl
 obtain⟨vs,H1,I1',r,Hf1,g1,rs⟩:=h1
 have I1:Inv X pins σ H1 s1:=I1'.unwish
 refine⟨I1.kIn,?_⟩
 have sr1:=sr.gr g1
 have nb:F ds≠.bad:=fun z=>by rw[z] at po;exact po
 have hsp:spX X.K F vs H1 (fun v H2=>∃t Hf2,F ds=.ok t/\Gr Hf1 H1 Hf2 H2/\RS X.K H1 Hf2 H2 t v) (fun c dx H2=>∃z Hf2,F ds=.ex z/\Gr Hf1 H1 Hf2 H2/\RepX X.K Hf2 H2 z c dx):=by
  refine⟨Hf1,ds,g1.sub,rs,?_⟩
  cases e:F ds with
  |ok t=>exact fun v Hf' H' g' q=>⟨t,Hf',rfl,g',q⟩
  |ex z=>exact fun c dx Hf' H' g' q=>⟨z,Hf',rfl,g',q⟩
  |bad=>exact nb e
 have hl:(us++[]).length=ps.length:=by rw[List.append_nil,<-r.length];exact G.len _ _ _ _ hsp
 have bnd:=hb s1 us I1.kIn hl
 rw[List.append_nil] at bnd
 refine wpAny_call (codeAny_mono (G.run X.A X.stack s1 H1 ⟨us,[]⟩ us vs _ _ hr I1.env0 bnd r hsp) fun rr s' hq=>?_)
 cases rr with
 |ok fl =>
  cases fl with
  |next=>exact False.elim hq
  |brk=>exact False.elim hq
  |cont=>exact False.elim hq
  |ret u =>
   obtain⟨v,H2,I2,rv,t,Hf2,eF,g2,q2⟩:=I1.after hq
   rw[eF] at po
   have done:∀{sd':DSt},PoS X.K E H0 B Hf (.ok (.nx sd')) D'->SR X.K H0 B Hf2 sd' (σ.set j (some v)) H2->wpAny (model X.prog X.w) X.A (storeName X.env x u) (fun _ s₁=>wpAny (model X.prog X.w) X.A (execs [] X.env) (fun f s₁=>match f with | .next=>wpAny (model X.prog X.w) X.A (execs [] X.env) (SP X pins D') X.xe s₁|f=>SP X pins D' f s₁) (fun e s₁=>wpAny (model X.prog X.w) X.A (noteFrame e X.env) (fun _ s₂=>wpAny (model X.prog X.w) X.A (setFlight e none) (fun _ s₃=>wpAny (model X.prog X.w) X.A (handleBy e X.env [.ExceptHandler (some (.Name c p3)) (some n) (b₀::suite) hpos]) (SP X pins D') X.xe s₃) X.xe s₂) X.xe s₁) s₁) (fun e s₁=>wpAny (model X.prog X.w) X.A (noteFrame e X.env) (fun _ s₂=>wpAny (model X.prog X.w) X.A (setFlight e none) (fun _ s₃=>wpAny (model X.prog X.w) X.A (handleBy e X.env [.ExceptHandler (some (.Name c p3)) (some n) (b₀::suite) hpos]) (SP X pins D') X.xe s₃) X.xe s₂) X.xe s₁) s':=fun {sd'} hp srn =>
    store_ok I2 hN hj hx rv (fun s3 I3=>wpAny_execs_nil (wpAny_execs_nil ⟨_,H2,I3,hp _ Hf2 H2 (g1.fz.trans g2.fz) srn⟩)) hfx
   cases t with
   |im d=>exact done po ((sr1.gr g2).set_im j q2)
   |ow es' =>
    obtain⟨p,rfl,e1,e2,e3⟩:=q2
    exact done po (sr1.set_new (sr1.gr g2) g2.all j e1 e2 rfl e3)
   |od _=>exact po.elim
   |dk _=>exact po.elim
   |xc _=>exact po.elim
   |fn _=>exact po.elim
 |error e =>
  obtain⟨b,H2,cl,dx,T,rfl,os,bare,un,hok,hnt,na,nT,za,zT,z,Hf2,eF,g2,C,xs,rfl,hcn,hxf,hrs⟩:=hq
  rw[eF] at po
  dsimp only at po
  split at po
  case isFalse=>exact po.elim
  rename_i hcs
  have I2:Inv X pins σ H2 s':=I1.call' os un hok bare (fun b z=>absurd z (by simp))
  have fa:=fresh_of I1 za
  have fT:=fresh_of I1 zT
  have hits:Hits X.K C Dc:=by
   obtain⟨C',q1,q2⟩:=hC z.cls (by simpa using hcs)
   rw[hcn] at q1;cases q1;exact q2
  show wpAny (model X.prog X.w) X.A (noteFrame (.ref b) X.env) _ _ s'
  refine note_at (base:=X.base) (outer:=X.outer) (by rw[<-hst];exact I2.ok.frames) (hst▸I2.stack) hfr hnt fun h3 T3 z3 n3 ne3 c3=>?_
  rw[<-hst] at c3
  have I3:Inv X pins σ H2 { s' with heap:=h3 }:=inv_ch I2 c3 na nT fa fT
  have fT3:Fresh X pins T3:=fresh_of I2 z3
  have nT3:H2 T3=none:=I2.hok.fresh z3
  refine flight_at (s:={ s' with heap:=h3 }) n3 ne3 fun h4 sz4 n4 o4=>?_
  have I4:Inv X pins σ H2 { s' with heap:=h4 }:=inv_ch (s:={ s' with heap:=h3 }) (h':=h4) (a:=b) (T:=T3) I3 ⟨fun b' o _ m2 _ q=>(o4 b' m2).trans q,fun b' o _ m2 q=>⟨o.slots,(o4 b' m2).trans q⟩⟩ na nT3 fa fT3
  refine wpAny_handleBy_cons (codeAny_handlers_test ?_) (by intro q;cases q)
  refine ld_glob (inv_sui (e:=.ref b) I4) hgD hD ?_ hdc
  obtain⟨oe,ws,q1,q2,_⟩:=id n4
  refine x_hits (K:=X.K) I4.kIn hits q1 q2 ?_
  refine codeAny_handlers_suite_as ?_
  refine flight_at (s:={ s' with heap:=h4 }) n4 ne3 fun h5 sz5 n5 o5=>?_
  have I5:Inv X pins σ H2 { s' with heap:=h5 }:=inv_ch (s:={ s' with heap:=h4 }) (h':=h5) (a:=b) (T:=T3) I4 ⟨fun b' o _ m2 _ q=>(o5 b' m2).trans q,fun b' o _ m2 q=>⟨o.slots,(o5 b' m2).trans q⟩⟩ na nT3 fa fT3
  have I6:Inv X pins σ (upd H2 b (XO b C dx)) { s' with heap:=h5 }:=inv_track I5 na fa (xo_ok n5)
  have g3:Gr Hf2 H2 (upd Hf2 b (XO b C dx)) (upd H2 b (XO b C dx)):=Gr.alloc g2.sub na _
  have sr6:SR X.K H0 B (upd Hf2 b (XO b C dx)) (sd.set i (some (.xc z))) (σ.set i (some (.ref b))) (upd H2 b (XO b C dx)) :=
   ((sr1.gr g2).gr g3).set_st i rfl (show RepE X.K _ z (.ref b) from⟨b,C,dx,xs,rfl,Zo,hcn,hxf.mono g3.fz,hrs.mono g3.fz⟩)
  refine store_ok (X:=sui X (.ref b)) (v:=.ref b) (inv_sui I6) hN hi (Or.inl hn) rfl (fun s6 I7=>?_) (Or.inr hn)
  obtain⟨t2,ps2,qs2⟩:=hs (.ref b)
  have run:=ps2 pins s6 _ _ { nx:=fun σ' H'=>∃Hf' sd',Same (upd Hf2 b (XO b C dx)) Hf'/\SR X.K H0 B Hf' sd' σ' H'/\g (sd.set i (some (.xc z)))=.ok (.nx sd'),rt:=fun _ _=>False } I7 (qs2 H0 B _ _ _ _ _ sr6 (by
   split at po
   case h_2=>exact po.elim
   rename_i sd' eg
   rw[eg]
   exact fun σ' Hf' H' e1 sr'=>⟨Hf',sd',e1,sr',rfl⟩))
  refine wpAny_mono run (fun fl s7 h7=>?_) fun _ _ z=>False.elim z
  cases fl with
  |next =>
   obtain⟨σ',H',I8,Hf',sd',e1,sr',eg⟩:=h7
   rw[eg] at po
   exact name_drop (inv_back I4.ok I8) hN hi hn fun s9 I9=>⟨_,H',I9,po _ Hf' H' ((g1.fz.trans g2.fz).trans (g3.fz.trans e1)) (sr'.drop i)⟩
  |ret u=>obtain⟨_,_,_,_,_,q⟩:=h7;exact q.elim
  |brk=>obtain⟨_,_,_,q⟩:=h7;exact q.elim
  |cont=>obtain⟨_,_,_,q⟩:=h7;exact q.elim
end
theorem psd_setCI (i0:Nat){X:Cx}{E:XK}{pos py spos:Pos}{tg elt iter cnd:Expr}{scope:Scope}{Nc:List Str}{n0:Nat}{caps:List Nat}{cl:List (Str×Addr)}{fi:DSt->M (List D)}{gt:D->DSt->M DSt}{fe:DSt->M D}{fc:DSt->M Bool}{y:Str}(hN:X.N.Nodup)(hc:X.calm=true)(hclos:closureFor scope X.env=pure cl)(cap:CapOk X Nc n0 caps scope cl)(hkind:scope.kind=.function)(hcell:∀y∈scope.names,y.2≠.cell)(hnames:∀y∈scope.names,y.2=.local->scope.names.lookup y.1=some .local)(hk:Keep n0 gt)(hi:PId X E tg iter fi)(hg:∀s3 H3 C ex,PGd (compCx X Nc scope cl s3 H3 C ex) tg gt)(hcd:∀s3 H3 C ex,PTd (compCx X Nc scope cl s3 H3 C ex) E0 cnd fc)(he:∀s3 H3 C ex,PEd (compCx X Nc scope cl s3 H3 C ex) E0 elt fe)(hs:∀x,foldedSetIterable iter X.env x=pure x:=by intro _;rfl)(hy:X.N[i0]?=some y:=by rfl)(hloc:Loc X.env.scope y:=by first|exact Or.inl rfl|exact Or.inr rfl)(hfy:X.fn y=true\/X.env.scope.names.lookup y=some .local:=by first|exact .inl rfl|exact .inr rfl)(hsw:swapsWith (.ListComp elt [⟨tg,iter,[cnd],0⟩] scope pos) (some (.Name y py)) spos.line X.env=pure true:=by rfl) :
  PSd X E (.Assign [.Name y py] (.ListComp elt [⟨tg,iter,[cnd],0⟩] scope pos) spos) (Qk i0 (eNew (Xe fi n0 caps gt fc fe))):=by
 refine⟨fun D' σ H=>∃H0 B Hf sd,SR X.K H0 B Hf sd σ H/\PoS X.K E H0 B Hf (Qk i0 (eNew (Xe fi n0 caps gt fc fe)) sd) D',?_,fun H0 B Hf sd σ H D' sr h=>⟨H0,B,Hf,sd,sr,h⟩⟩
 rintro pins s σ H D' I ⟨H0,B,Hf,sd,sr,h⟩
 obtain⟨wi,pw,qw⟩:=hi
 rw[exec_Assign_Name_used _ _ _ _ hsw]
 refine wpAny_bind (wpAny_standAt (wpAny_bind ?_))
 show wpAny _ _ (do let _ <-comprehension (.ListComp elt [⟨tg,iter,[cnd],0⟩] scope pos) scope X.env _ (newList []) false (eval iter X.env) (some (assign (.Name y py) X.env))) _ _ s
 refine wpAny_bind (wpAny_mono (wpAny_comprehension_free (use:=some (assign (.Name y py) X.env)) (Q:=fun _ s'=>SP X pins D' .next s') rfl hs hclos hkind hnames ?_) (fun _ s' hq=>wpAny_pure (wpAny_pure hq)) fun _ _ e=>e)
 have h':PoS X.K E H0 B Hf ((fi sd).bind fun ds=>(if few ds then filD gt fc fe (sdC n0 caps sd) ds else .bad).bind fun es=>.ok (.nx (sd.set i0 (some (.im (.lst es)))))) D':=by
  unfold Qk eNew Xe at h
  cases q:fi sd with
  |ok ds =>
   rw[q] at h
   rw[M.bind_ok] at h ⊢
   cases q2:(if few ds then filD gt fc fe (sdC n0 caps sd) ds else M.bad) with
   |ok es=>rw[q2] at h;exact h
   |ex x=>rw[q2] at h;exact h
   |bad=>rw[q2] at h;exact h
  |ex x=>rw[q] at h;exact h
  |bad=>rw[q] at h;exact h
 have step:=pw pins s σ H (fun J H2=>∃ds Hf2,Gr Hf H Hf2 H2/\ItOk X.K Hf2 H2 ds J/\PoS X.K E H0 B Hf2 ((if few ds then filD gt fc fe (sdC n0 caps sd) ds else .bad).bind fun es=>.ok (.nx (sd.set i0 (some (.im (.lst es)))))) D') I
  (qw H0 B Hf sd σ H _ sr (PoS.bind sr h' fun ds J Hf2 H2 _ g2 _ jok h2=>⟨ds,Hf2,g2,jok,h2⟩))
 refine thn step fun v s1 h1=>thn h1 fun itv s2 h2=>?_
 obtain⟨it,fp,tn,J,H2,rfl,I2,T,st2,f2,ds,Hf2,g2,jok,hq⟩:=h2
 have sr2:=sr.gr g2
 split at hq
 case isFalse=>exact hq.elim
 case isTrue hfew =>
 have fresh:H2 s2.heap.objs.size=none:=I2.hok.fresh (Nat.le_refl _)
 have holdf:∀b∈fp,∃o,s2.heap.get? b=some o:=fun b hb=>let ⟨o,e,_⟩:=T.obj 0 _ st2 b hb;⟨o,e⟩
 refine wpAny_newObj_type (wpAny_newFunctionEnv hcell (by intro y hy;simp at hy) (fun h₁ hns₁ hsb₁=>?_) hkind)
 have hC:(s2.heap.push Qj).objs.size=s2.heap.objs.size+1:=Heap.size_push _ _
 have hns:h₁.Ns (s2.heap.objs.size+1) (fun x=>([]:List (Str×Value)).reverse.lookup x):=hC▸hns₁
 have hsb:Heap.SameBut (s2.heap.objs.size+1) ((s2.heap.push Qj).push { cls:=.type "dict", data:=.dict #[] }) h₁:=hC▸hsb₁
 have hold1:∀b o,s2.heap.get? b=some o->h₁.get? b=some o:=fun b o e=>by
  have hb:b<s2.heap.objs.size:=Heap.lt_size e
  exact(hsb.2 b (Nat.ne_of_lt (Nat.lt_succ_of_lt hb))).trans (Heap.get?_push_of_some _ (Heap.get?_push_of_some _ e))
 have hD:h₁.get? s2.heap.objs.size=some Qj:=(hsb.2 _ (Nat.ne_of_lt (Nat.lt_succ_self _))).trans (Heap.get?_push_of_some _ (Heap.get?_push_size _ rfl))
 have J0:=comp_inv I2 f2 holdf hkind cap (tk:=s2.toks+([]:List (Str×Value)).length) hns hold1 hD
 have hg:=hg { s2 with heap:=s2.heap.push Qj } (upd H2 s2.heap.objs.size (.lst [])) (s2.heap.objs.size+1) fp
 have hcd:=hcd { s2 with heap:=s2.heap.push Qj } (upd H2 s2.heap.objs.size (.lst [])) (s2.heap.objs.size+1) fp
 have he:=he { s2 with heap:=s2.heap.push Qj } (upd H2 s2.heap.objs.size (.lst [])) (s2.heap.objs.size+1) fp
 generalize hXc:compCx X Nc scope cl { s2 with heap:=s2.heap.push Qj } (upd H2 s2.heap.objs.size (.lst [])) (s2.heap.objs.size+1) fp=Xc at J0 hg hcd he
 have eP:Xc.prog=X.prog:=by subst hXc;rfl
 have eW:Xc.w=X.w:=by subst hXc;rfl
 have eK:Xc.K=X.K:=by subst hXc;rfl
 have eA:Xc.A=X.A:=by subst hXc;rfl
 have eX:Xc.xe=fun _ _=>False:=by subst hXc;rfl
 have eE:Xc.env=compEnvC scope cl (s2.heap.objs.size+1) X.env:=by subst hXc;rfl
 have eC:Xc.calm=true:=by subst hXc;exact hc
 have fpc:∀{H':Hp},(∀b∈fp,H' b=none)->∀b∈fp,FpOk Xc [] H' b:=fun {H'} hn b hb=>by
  subst hXc
  obtain⟨f0,f1,f2',f3,f4,f5⟩:=f2 b hb
  obtain⟨o,eo⟩:=holdf b hb
  refine⟨hn b hb,Nat.ne_of_lt (Nat.lt_succ_of_lt (Heap.lt_size eo)),fun hz=>?_,.inl hb,fun x c e=>f4 x c (cap.sub x c e),fun p hp=>absurd (show p∈([]:List (Addr×Obj)) from hp) (by simp)⟩
  rcases List.mem_cons.mp (I2.stkSub b hz) with e|hz
  ·exact f1 e
  ·exact f2' hz
 have nfp:∀b∈fp,b≠s2.heap.objs.size:=fun b hb=>by
  obtain⟨o,eo⟩:=holdf b hb
  exact Nat.ne_of_lt (Heap.lt_size eo)
 obtain⟨tg',pg,qg⟩:=hg
 obtain⟨tcn,pcn,qcn⟩:=hcd
 obtain⟨te,pe,qe⟩:=he
 have loop:∀s₃:Shared,s₃={ s2 with heap:=h₁,toks:=s2.toks+([]:List (Str×Value)).length } ->
   codeAny (model X.prog X.w) X.A (.compLoop (.ListComp elt [⟨tg,iter,[cnd],0⟩] scope pos) 0 (.ref it) (.ref s2.heap.objs.size) (compEnvC scope cl (s2.heap.objs.size+1) X.env))
    (compPost (model X.prog X.w) X.A X.xe (some (assign (.Name y py) X.env)) (fun _ s'=>SP X pins D' .next s') (.ref s2.heap.objs.size) (s2.heap.objs.size+1)) s₃:=by
  rintro s₃ rfl
  refine codeAny_comp_if (fun n s'=>∃i vs es H' Hf' σ',n=ds.length - i/\i<=ds.length/\Inv Xc [] σ' H' s'/\tn i s'.heap/\(∀b∈fp,H' b=none) /\
   H' s2.heap.objs.size=some (.lst vs)/\Hf' s2.heap.objs.size=none/\Gr Hf2 H2 Hf' H'/\Reps X.K Hf' es vs/\vs.length<=i /\
   (sdC n0 caps sd).length=σ'.length/\(∀(j:Nat) (d:D),(sdC n0 caps sd)[j]?=some (some (.im d))->∃v,σ'[j]?=some (some v)/\Rep X.K Hf' d v) /\
   PoS X.K E H0 B Hf2 ((filD gt fc fe (sdC n0 caps sd) (ds.drop i)).bind fun fs=>.ok (.nx (sd.set i0 (some (.im (.lst (es++fs))))))) D') ?_ ds.length ?_
  ·rintro n s' ⟨i,vs,es,H',Hf',σ',rfl,hil,J1,st1,fr1,hd1,hf1,g1,rs1,hl1,hlen1,him1,hq1⟩
   have jj:=jok i Hf' H' g1.fz g1.sub
   cases q:ds[i]? with
   |none =>
    rw[q] at jj
    have tdone:=T.done Xc eP eW eK eC i [] s' _ H' (fun _ _=>False) J1 (fpc fr1) st1 jj
    rw[eA] at tdone
    refine wpAny_mono tdone (fun r s4 hr=>?_) fun _ _ z=>z
    obtain⟨rfl,J4⟩:=hr
    rw[List.drop_eq_nil_of_le (List.getElem?_eq_none_iff.mp q)] at hq1
    subst hXc
    obtain⟨m,hn4,_⟩:=J4.loc
    have I4:Inv X pins σ H' s4:=comp_back I2 f2 J4 (h':=s4.heap) ⟨rfl,fun _ _=>rfl⟩
    have fC:Fresh X pins (s2.heap.objs.size+1):=fresh_of I2 (Nat.le_succ _)
    have nC:H' (s2.heap.objs.size+1)=none:=J4.free
    show wpAny (model X.prog X.w) X.A (assign (.Name y py) X.env (.ref s2.heap.objs.size)) _ _ s4
    refine wpAny_assign_Name (store_ok2 (v:=.ref s2.heap.objs.size) I4 hN hy hloc rfl (fun s5 I5 hw=>?_) hfy)
    obtain⟨a5,sb5,ha5⟩:=hw
    have neC:s2.heap.objs.size+1≠a5:=by
     rcases ha5 with e|e
     ·rw[e];exact fC.nl
     ·exact(fC.nc _ _ e).symm
    refine⟨m,hn4.sameBut sb5 neC,fun h6 sb6=>?_⟩
    have I6:Inv X pins (σ.set i0 (some (.ref s2.heap.objs.size))) H' { s5 with heap:=h6 }:=inv_ch (a:=s2.heap.objs.size+1) (T:=s2.heap.objs.size+1) I5 ⟨fun b o n1 n2 _ e=>(sb6.2 b n1).trans e,fun b o n1 n2 e=>⟨o.slots,(sb6.2 b n1).trans e⟩⟩ nC nC fC fC
    have hq2:PoS X.K E H0 B Hf2 (.ok (.nx (sd.set i0 (some (.im (.lst es)))))) D':=by
     have:es++([]:List D)=es:=List.append_nil es
     rw[<-this];exact hq1
    have g:Gr Hf2 H2 (upd Hf' s2.heap.objs.size (.lst vs)) H':=by
     refine⟨g1.fz.trans (Z4 hf1 _),fun b u z=>?_,g1.all,fun a h1 h2=>?_⟩
     ·by_cases hb:b=s2.heap.objs.size
      ·subst hb;rw[Zo] at z;rw[hd1];exact z
      ·rw[Zn hb] at z;exact g1.sub b u z
     ·have:a≠s2.heap.objs.size:=fun z=>h1 (z▸fresh)
      rw[Zn this];exact g1.ban a h1 h2
    exact⟨_,H',I6,hq2 _ _ H' g.fz ((sr2.gr g).set_im i0 (rep_lst.mpr ⟨_,vs,rfl,SqL.of Zo,rs1.mono (Z4 hf1 _)⟩))⟩
   |some d =>
    rw[q] at jj
    obtain⟨go,yl⟩:=jj
    have hlt:i<ds.length:=(List.getElem?_eq_some_iff.mp q).1
    have hdr:ds.drop i=d::ds.drop (i+1):=by
     rw[List.drop_eq_getElem_cons hlt]
     congr 1
     exact(List.getElem?_eq_some_iff.mp q).2
    obtain⟨sd1,eg,hq2⟩:∃sd1,gt d (sdC n0 caps sd)=.ok sd1/\((fc sd1=.ok true/\∃e1,fe sd1=.ok e1/\PoS X.K E H0 B Hf2 ((filD gt fc fe (sdC n0 caps sd) (ds.drop (i+1))).bind fun fs=>.ok (.nx (sd.set i0 (some (.im (.lst ((es++[e1])++fs))))))) D') \/
      (fc sd1=.ok false/\PoS X.K E H0 B Hf2 ((filD gt fc fe (sdC n0 caps sd) (ds.drop (i+1))).bind fun fs=>.ok (.nx (sd.set i0 (some (.im (.lst (es++fs))))))) D')):=by
     rw[hdr] at hq1
     unfold filD at hq1
     split at hq1
     ·rename_i sd1 eg
      refine⟨sd1,eg,?_⟩
      split at hq1
      ·rename_i ec
       refine .inl ⟨ec,?_⟩
       split at hq1
       ·rename_i e1 ee
        refine⟨e1,ee,?_⟩
        cases em:filD gt fc fe (sdC n0 caps sd) (ds.drop (i+1)) with
        |ok fs =>
         rw[em] at hq1
         have:(es++[e1])++fs=es++e1::fs:=by simp
         rw[M.bind_ok,this]
         exact hq1
        |ex x=>rw[em] at hq1;exact hq1.elim
        |bad=>rw[em] at hq1;exact hq1.elim
       ·exact hq1.elim
      ·rename_i ec
       exact .inr ⟨ec,hq1⟩
      ·exact hq1.elim
     ·exact hq1.elim
    have titem:=T.item Xc eP eW eK eC i [] s' _ H' (fun _ _=>False) J1 (fpc fr1) st1 go
    rw[eA] at titem
    refine wpAny_mono titem (fun r s4 hr=>?_) fun _ _ z=>z
    obtain⟨u,rfl,h4⟩:=hr
    refine wpAny_mono h4 (fun _ s5 h5=>?_) fun _ _ z=>z
    obtain⟨x,H5,J5,r5,y5,st5,fr5⟩:=h5
    obtain⟨Hf5,g5,rx⟩:=yl x H5 y5
    have J5':=J5.pinned (fpc fr5) (T.obj _ _ st5)
    have hD5:H5 s2.heap.objs.size=some (.lst vs):=g5.all _ _ hd1
    have hf5:Hf5 s2.heap.objs.size=none:=g5.ban _ (by rw[hd1];simp) hf1
    have him5:∀(j:Nat) (d:D),(sdC n0 caps sd)[j]?=some (some (.im d))->∃v,σ'[j]?=some (some v)/\Rep X.K Hf5 d v:=fun j d z=>let ⟨v,z1,z2⟩:=him1 j d z;⟨v,z1,z2.mono g5.fz⟩
    have sr5:SR Xc.K H5 (fun a=>H5 a≠none/\Hf5 a=none) Hf5 (sdC n0 caps sd) σ' H5:=eK▸SR.ofIm g5.sub hlen1 him5 sdC_no
    obtain⟨kl,kk,kn⟩:=hk d _ sd1 eg
    rcases hq2 with⟨ec,e1,ee,hq2⟩|⟨ec,hq2⟩
    ·have hg2:=pg _ s5 σ' H5 x u (fun σ6 H6=>tcn σ6 H6 fun bb H6'=>bb=true/\te σ6 H6' fun v7 H7=>∃Hf7,Gr Hf5 H5 Hf7 H7/\Rep X.K Hf7 e1 v7/\(sdC n0 caps sd).length=σ6.length/\(∀(j:Nat) (d:D),(sdC n0 caps sd)[j]?=some (some (.im d))->∃v,σ6[j]?=some (some v)/\Rep X.K Hf7 d v)) J5' r5
      (qg H5 _ Hf5 _ σ' H5 x d sd1 _ sr5 (eK▸rx) eg fun σ6 sr6=>qcn H5 _ Hf5 sd1 σ6 H5 _ sr6 (by
       rw[ec]
       rintro bb Hf6 H6' g6 rfl
       refine⟨rfl,qe H5 _ Hf6 sd1 σ6 H6' _ (sr6.gr g6) ?_⟩
       rw[ee]
       intro v7 Hf7 H7 g7 r7
       have r7:Rep Xc.K Hf7 e1 v7:=r7
       rw[eK] at r7
       refine⟨Hf7,g6.trans g7,r7,by rw[<-kl];exact sr6.len,fun j d z=>?_⟩
       have z2:sd1[j]?=some (some (.im d)):=by rw[kk j (sdC_lt z)];exact z
       obtain⟨v,z3,z4⟩:=sr6.im j d z2
       rw[eK] at z4
       exact⟨v,z3,z4.mono (g6.fz.trans g7.fz)⟩))
     rw[eP,eW,eA,eX,eE] at hg2
     refine wpAny_mono hg2 (fun _ s6 h6=>?_) fun _ _ z=>z
     obtain⟨σ6,H6,J6,q6⟩:=h6
     have hc2:=pcn _ s6 σ6 H6 _ J6 q6
     rw[eP,eW,eA,eX,eE] at hc2
     refine wpAny_mono hc2 (fun bb s6' h6=>?_) fun _ _ z=>z
     obtain⟨H6',J6',rfl,q6'⟩:=h6
     rw[if_pos rfl]
     have he2:=pe _ s6' σ6 H6' _ J6' q6'
     rw[eP,eW,eA,eX,eE] at he2
     refine wpAny_mono he2 (fun y s7 h7=>?_) fun _ _ z=>z
     obtain⟨v7,H7,J7,r7,Hf7,g7,rv7,hl7,him7⟩:=h7
     have hD7:H7 s2.heap.objs.size=some (.lst vs):=g7.all _ _ hD5
     have hf7:Hf7 s2.heap.objs.size=none:=g7.ban _ (by rw[hD5];simp) hf5
     have happ:=mt_append (X:=Xc) _ s7 σ6 H7 (.ref s2.heap.objs.size) [v7] (.ref s2.heap.objs.size) [y] (fun _ H8=>H8=upd H7 s2.heap.objs.size (.lst (vs++[v7]))) J7 rfl (.cons r7 .nil)
      ⟨_,vs,v7,rfl,rfl,hD7,by
       have h1:=of_decide_eq_true hfew
       have h2:=sizeLine_eq
       lia,rfl⟩
     rw[eP,eW,eA,eX] at happ
     refine wpAny_mono happ (fun _ s8 h8=>?_) fun _ _ z=>z
     obtain⟨_,H8,J8,_,e8⟩:=h8
     subst e8
     have g17:=(g1.trans g5).trans g7
     refine⟨ds.length - (i+1),by lia,i+1,vs++[v7],es++[e1],_,Hf7,σ6,rfl,hlt,J8.unpinned,?_,fun b hb=>?_,Zo,hf7,⟨g17.fz,fun b o z=>?_,fun b o z=>?_,g17.ban⟩,?_,by rw[List.length_append,List.length_singleton];lia,hl7,him7,hq2⟩
     ·exact T.keep _ _ _ st5 fun b hb o e=>(J8.pin (b,o) (List.mem_append_right _ (List.mem_append_right _ (Yn hb e)))).1
     ·obtain⟨o,e,_⟩:=T.obj _ _ st5 b hb
      exact(J8.pin (b,o) (List.mem_append_right _ (List.mem_append_right _ (Yn hb e)))).2.1
     ·have:b≠s2.heap.objs.size:=Zy z hf7
      rw[Zn this];exact g17.sub b o z
     ·have:b≠s2.heap.objs.size:=Zy z fresh
      rw[Zn this];exact g17.all b o z
     ·exact(rs1.mono (g5.fz.trans g7.fz)).append (Reps.cons rv7 Reps.nil)
    ·have hg2:=pg _ s5 σ' H5 x u (fun σ6 H6=>tcn σ6 H6 fun bb H7=>bb=false/\∃Hf7,Gr Hf5 H5 Hf7 H7/\(sdC n0 caps sd).length=σ6.length/\(∀(j:Nat) (d:D),(sdC n0 caps sd)[j]?=some (some (.im d))->∃v,σ6[j]?=some (some v)/\Rep X.K Hf7 d v)) J5' r5
      (qg H5 _ Hf5 _ σ' H5 x d sd1 _ sr5 (eK▸rx) eg fun σ6 sr6=>qcn H5 _ Hf5 sd1 σ6 H5 _ sr6 (by
       rw[ec]
       rintro bb Hf6 H6' g6 rfl
       refine⟨rfl,Hf6,g6,by rw[<-kl];exact sr6.len,fun j d z=>?_⟩
       have z2:sd1[j]?=some (some (.im d)):=by rw[kk j (sdC_lt z)];exact z
       obtain⟨v,z3,z4⟩:=sr6.im j d z2
       rw[eK] at z4
       exact⟨v,z3,z4.mono g6.fz⟩))
     rw[eP,eW,eA,eX,eE] at hg2
     refine wpAny_mono hg2 (fun _ s6 h6=>?_) fun _ _ z=>z
     obtain⟨σ6,H6,J6,q6⟩:=h6
     have hc2:=pcn _ s6 σ6 H6 _ J6 q6
     rw[eP,eW,eA,eX,eE] at hc2
     refine wpAny_mono hc2 (fun bb s8 h6=>?_) fun _ _ z=>z
     obtain⟨H8,J8,rfl,Hf7,g7,hl7,him7⟩:=h6
     rw[if_neg (by decide)]
     have hD7:H8 s2.heap.objs.size=some (.lst vs):=g7.all _ _ hD5
     have hf7:Hf7 s2.heap.objs.size=none:=g7.ban _ (by rw[hD5];simp) hf5
     have g17:=(g1.trans g5).trans g7
     refine⟨ds.length - (i+1),by lia,i+1,vs,es,_,Hf7,σ6,rfl,hlt,J8.unpinned,?_,fun b hb=>?_,hD7,hf7,g17,rs1.mono (g5.fz.trans g7.fz),by lia,hl7,him7,hq2⟩
     ·exact T.keep _ _ _ st5 fun b hb o e=>(J8.pin (b,o) (List.mem_append_right _ (List.mem_append_right _ (Yn hb e)))).1
     ·obtain⟨o,e,_⟩:=T.obj _ _ st5 b hb
      exact(J8.pin (b,o) (List.mem_append_right _ (List.mem_append_right _ (Yn hb e)))).2.1
  ·refine⟨0,[],[],_,Hf2,_,by simp,Nat.zero_le _,J0,T.keep 0 _ _ st2 fun b hb o e=>hold1 b o e,fun b hb=>?_,Zo,g2.sub.free fresh,⟨Same.refl _,fun b o z=>?_,Z4 fresh _,fun _ _ z=>z⟩,Reps.nil,Nat.le_refl _,?_,fun j d z=>?_,?_⟩
   ·rw[Zn (nfp b hb)];exact(f2 b hb).1
   ·have:b≠s2.heap.objs.size:=Zy (g2.sub b o z) fresh
    rw[Zn this];exact g2.sub b o z
   ·unfold sdC;simp only[List.length_append,List.length_replicate,List.length_map]
   ·obtain⟨k,j',d',rfl,ej,es,ed⟩:=sdC_at z
    cases ed
    obtain⟨v,z1,z2⟩:=sr2.im j' d es
    refine⟨v,?_,z2⟩
    rw[List.getElem?_append_right (by simp),List.length_replicate,Nat.add_sub_cancel_left,List.getElem?_map,ej]
    simp[z1]
   ·rw[List.drop_zero]
    exact hq
 show codeAny (model X.prog X.w) X.A (.compStart (.ListComp elt [⟨tg,iter,[cnd],0⟩] scope pos) 0 (.ref it) (.ref s2.heap.objs.size) (compEnvC scope cl (s2.heap.push Qj).objs.size X.env))
  (compPost (model X.prog X.w) X.A X.xe (some (assign (.Name y py) X.env)) (fun _ s'=>SP X pins D' .next s') (.ref s2.heap.objs.size) (s2.heap.push Qj).objs.size) { s2 with heap:=h₁,toks:=s2.toks+([]:List (Str×Value)).length }
 rw[hC]
 exact codeAny_compStart_list (loop _ rfl) (T.self X.A 0 _ _ _ (T.keep 0 _ _ st2 fun b hb o e=>hold1 b o e) (loop _ rfl))
def eDGetD (i:Nat)(fk fd:DSt->M D)(sd:DSt):M D:=if isDct sd[i]? then((fk sd).bind fun k=>(fd sd).bind fun d=>match dget sd[i]? k with
 |some (some v)=>.ok v
 |some none=>.ok d
 |none=>.bad) else .bad
theorem at_isD {K:Frag}{Hf H:Hp}{p:Addr}{t:S}(h:S.at K Hf H p t)(hd:isDct (some (some t))=true):IsD H p:=by
 cases t with
 |od kvs=>obtain⟨ys,e,_⟩:=h;exact .inr ⟨ys,.inl e⟩
 |dk kvs=>obtain⟨ys,e,_⟩:=h;exact .inl ⟨ys,.inl e⟩
 |im d=>cases hd
 |xc x=>cases hd
 |fn x=>cases hd
 |ow ds=>cases hd
theorem pd_dgetD (i:Nat){X:Cx}{E:XK}{x:Str}{key dflt:Expr}{p1 apos cpos:Pos}{fk fd:DSt->M D}(hu:X.A.units+64<cLine)(hk:PEd X E key fk)(hf:PEd X E dflt fd)(hi:X.N[i]?=some x:=by rfl)(hvis:Vis X.env.scope x:=by first|exact Or.inl rfl|exact Or.inr (Or.inl rfl)|exact Or.inr (Or.inr rfl))
  (hd:(x==("__debug__" : Str))=false:=by decide) (hcd:(x==("__classdict__" : Str))=false:=by decide) (m:M2 X (.Name x p1) "get" apos key dflt cpos:=by exact⟨rfl,rfl,rfl,rfl⟩):PEd X E (.Call (.Attribute (.Name x p1) "get" apos) [key,dflt] [] cpos) (eDGetD i fk fd):=by
 obtain⟨tk,pk,qk⟩:=hk
 obtain⟨td,pd,qd⟩:=hf
 refine⟨_,pe_dget2 (by lia) (Ym hi hvis hd hcd) pk pd m,fun H0 B Hf sd σ H Q sr h=>?_⟩
 unfold eDGetD at h
 split at h
 case isFalse=>exact h.elim
 case isTrue hdc =>
 obtain⟨t,et,ot⟩:=dct_own hdc
 obtain⟨p,z1,_,_,z4⟩:=sr.ow i t et ot
 refine⟨_,z1,p,rfl,at_isD z4 (et▸hdc),?_⟩
 refine qk H0 B Hf sd σ H _ sr (Po.bind h fun dk y Hf1 H1 _ g1 ry h1=>?_)
 refine qd H0 B Hf1 sd σ H1 _ (sr.gr g1) (Po.bind h1 fun dd z Hf2 H2 _ g2 rz h2=>?_)
 obtain⟨p',z1',_,_,z4'⟩:=((sr.gr g1).gr g2).ow i t et ot
 rw[z1] at z1'
 cases z1'
 rw[et] at h2
 split at h2
 ·rename_i v ed
  obtain⟨o,d1,w,rfl,d3⟩:=dget_get ed g2.sub z4' (ry.mono g2.fz)
  exact⟨_,d1,Po.ret (R:=rV X.K) g2.sub h2 d3⟩
 ·rename_i ed
  obtain⟨o,d1,d3⟩:=dget_get ed g2.sub z4' (ry.mono g2.fz)
  have d3:o=none:=d3
  subst d3
  exact⟨_,d1,Po.ret (R:=rV X.K) g2.sub h2 rz⟩
 ·exact h2.elim
end DL
set_option maxHeartbeats 4000000
set_option linter.all false
set_option maxRecDepth 100000
namespace DL
open PySem PySem.Spec PyProof.Rows L2 HT
section
variable {prog:Program} {w:World} {A:Around} {E:Value->Shared->Prop} {s:Shared}
theorem sliceApplied_one {sl:Addr}{t:Tok}{n:Nat}{Q:Int×Int×Nat->Shared->Prop}(hs:s.heap.IsSliceOf sl .none .none (.int 1 t))(h:Q (0,1,n) s):wpAny (model prog w) A (Builtin.Slice.sliceApplied (.ref sl) (pure (n:Int))) Q E s:=by
 obtain⟨os,hos,hcs,hds⟩:=id hs
 unfold Builtin.Slice.sliceApplied Builtin.Slice.sliceFields
 refine wpAny_bind (wpAny_bind (wpAny_field hos hds (x:=.none) rfl (wpAny_bind (wpAny_field hos hds (x:=.none) rfl (wpAny_bind (wpAny_field hos hds (x:=.int 1 t) rfl (wpAny_pure ?_)))))))
 refine wpAny_bind (slicePart_int ?_)
 show wpAny _ _ (if((1:Int)==0)=true then _ else _) _ _ s
 rw[if_neg (by decide)]
 refine wpAny_bind (slicePart_none (wpAny_bind (slicePart_none (wpAny_bind (wpAny_pure ?_)))))
 show wpAny _ _ (match Builtin.Slice.sliceAdjust none none 1 (n:Int) with|(lo,hi)=>pure (lo,(1:Int),Builtin.Slice.slicePlaces lo hi 1)) _ _ s
 have e1:Builtin.Slice.sliceAdjust none none 1 (n:Int)=(0,(n:Int)):=by
  unfold Builtin.Slice.sliceAdjust
  simp
 have e2:Builtin.Slice.slicePlaces 0 (n:Int) 1=n:=by
  unfold Builtin.Slice.slicePlaces
  simp
  first|done|(split<;>lia)|lia
 rw[e1]
 show wpAny _ _ (pure ((0:Int),(1:Int),Builtin.Slice.slicePlaces 0 (n:Int) 1)) _ _ s
 rw[e2]
 exact wpAny_pure h
theorem getItem_tuple_one {t sl:Addr}{items:Array Value}{tk:Tok}{Q:Value->Shared->Prop}(ht:IsTup s.heap t items)(hs:s.heap.IsSliceOf sl .none .none (.int 1 tk))(h:Q (.ref t) s):wpAny (model prog w) A (getItem (.ref t) (.ref sl)) Q E s:=by
 obtain⟨os,hos,hcs,hds⟩:=id hs
 have hTs:s.TypeIs (.ref sl) "slice" := ⟨os,hos,hcs⟩
 unfold getItem
 try with_reducible refine wpAny_holding ?_
 first|refine wpAny_bind (wpAny_pure ?_)|skip
 refine wpAny_bind (wpAny_sequenceKey ht.typeIs (by decide) ?_)
 refine wpAny_bind (wpAny_callSpecial?_slot (name:=Str.ofString "__getitem__") ht.typeIs PyProof.Rows.slot_tuple_getitem
  (wpAny_call_entry PyProof.Rows.slot_tuple_getitem ht.typeIs entry_tuple_getitem ?_ (args_tuple_getitem _ _)))
 show wpAny _ _ (Builtin.Tuple.tupleItemsOf (.ref t)>>=_) _ _ s
 refine wpAny_bind (tupleItemsOf_ ht ?_)
 refine wpAny_bind (wpAny_typeOf hTs ?_)
 rw[if_pos (by decide)]
 refine wpAny_bind (sliceApplied_one hs ?_)
 show wpAny _ _ (if((0:Int)==0&&(1:Int)==1&&items.size==items.size)=true then _ else _) _ _ s
 rw[if_pos (by simp)]
 unfold Builtin.Tuple.tupleIsExact
 refine wpAny_bind (wpAny_bind (wpAny_typeOf ht.typeIs (wpAny_pure ?_)))
 rw[if_pos (by decide)]
 first
  |exact wpAny_bind (wpAny_rule (wpAny_pure ⟨_,rfl,wpAny_pure h⟩))
  |exact wpAny_bind (wpAny_rule (wpAny_bind (wpAny_pure (wpAny_pure ⟨_,rfl,wpAny_pure h⟩))))
  |exact wpAny_bind (wpAny_rule (wpAny_pure h))
end
section
variable {X:Cx} {E:XK} {pos p2:Pos} {e es:Expr}
def tStepT (K:PySem.W.Frag)(te ts:TE):TE:=fun σ H Q=>te σ H fun x H1=>ts σ H1 fun y H2=>∃a xs,x=.ref a/\SqT K H2 a xs/\((y=.int 1/\Q x H2)\/(y=.int (-1)/\∀p,H2 p=none->Q (.ref p) (upd H2 p (.tup xs.reverse))))
theorem pe_stepT {te ts:TE}(he:PE X e te)(hs:PE X es ts):PE X (.Subscript e (.Slice none none (some es) p2) pos) (tStepT X.K te ts):=by
 intro pins s σ H Q I h
 refine Subscript_ (thn (he pins s σ H _ I h) fun v s1 ⟨x,H1,I1,r1,q1⟩=>?_)
 refine wpAny_Slice ?_
 rw[evalPart_none]
 refine wpAny_pure (wpAny_pure ?_)
 rw[evalPart_some]
 refine thn (hs pins s1 σ H1 _ I1 q1) fun vst s2 ⟨y,H2,I2,ry,a,xs,e1,hx,q⟩=>?_
 subst e1
 cases r1
 rcases q with⟨ey,q⟩|⟨ey,q⟩
 ·subst ey
  obtain⟨tk,rfl⟩:=(show ∃t,vst=Value.int 1 t from ry)
  have I4:Inv X pins σ H2 { s2 with heap:=s2.heap.push { cls:=.type "slice", data:=.fields #[.none,.none,.int 1 tk] } }:=I2.kept (t':=s2.toks) fun b ob q=>Heap.get?_push_of_some _ q
  obtain⟨its,r,ht,hz⟩:=I4.tuple hx
  show wpAny (model X.prog X.w) X.A (subscriptTail e _ _ (.ref s2.heap.objs.size)) (EP X pins σ Q) X.xe { s2 with heap:=s2.heap.push { cls:=.type "slice", data:=.fields #[.none,.none,.int 1 tk] } }
  exact tail_any (ops:=[.ref a,.ref s2.heap.objs.size]) ht.typeIs PyProof.Rows.slot_tuple_getitem.lookup (getItem_tuple_one ht (Heap.IsSliceOf.new ..) ⟨.ref a,H2,I4,rfl,q⟩) (by with_unfolding_all rfl)
 ·subst ey
  obtain⟨tk,rfl⟩:=(show ∃t,vst=Value.int (-1) t from ry)
  have I4:Inv X pins σ H2 { s2 with heap:=s2.heap.push { cls:=.type "slice", data:=.fields #[.none,.none,.int (-1) tk] } }:=I2.kept (t':=s2.toks) fun b ob q=>Heap.get?_push_of_some _ q
  obtain⟨its,r,ht,hz⟩:=I4.tuple hx
  have hlen:its.toArray.size=xs.length:=by rw[List.size_toArray];exact r.length.symm
  show wpAny (model X.prog X.w) X.A (subscriptTail e _ _ (.ref s2.heap.objs.size)) (EP X pins σ Q) X.xe { s2 with heap:=s2.heap.push { cls:=.type "slice", data:=.fields #[.none,.none,.int (-1) tk] } }
  refine tail_any (ops:=[.ref a,.ref s2.heap.objs.size]) ht.typeIs PyProof.Rows.slot_tuple_getitem.lookup (getItem_tuple_rev ht (Heap.IsSliceOf.new ..) ?_ (by rw[hlen];exact hz)) (by with_unfolding_all rfl)
  refine⟨.ref _,_,I4.laid (t':=s2.toks) (o:=.tup xs.reverse) (fun b ob q=>Heap.get?_push_of_some _ q) (Nat.le_refl _) ?_,rfl,q _ (I4.hok.fresh (Nat.le_refl _))⟩
  exact⟨by rw[List.length_reverse];exact hz,_,Vals.rev r,IsTup.new _ _⟩
def eStep (f g:DSt->M D)(sd:DSt):M D:=(f sd).bind fun d=>(g sd).bind fun n=>match d,n with
 |.tup ds,.int i=>if i=1 then .ok (.tup ds) else if i = -1 then .ok (.tup ds.reverse) else .bad
 |_,_=>.bad
theorem pd_step {f g:DSt->M D}(h:PEd X E e f)(h2:PEd X E es g):PEd X E (.Subscript e (.Slice none none (some es) p2) pos) (eStep f g):=by
 obtain⟨t,p,q⟩:=h
 obtain⟨t2,p2,q2⟩:=h2
 refine⟨_,pe_stepT p p2,fun H0 B Hf sd σ H Q sr h=>?_⟩
 refine q H0 B Hf sd σ H _ sr (Po.bind h fun d v Hf1 H1 _ g1 rv h1=>?_)
 refine q2 H0 B Hf1 sd σ H1 _ (sr.gr g1) (Po.bind h1 fun n y Hf2 H2 _ g2 ry h2=>?_)
 split at h2
 ·rename_i ds i
  have rv:=rv.mono g2.fz
  obtain⟨a,xs,e1,ha,hr⟩:=Z8 rv
  rw[rep_int.mp ry]
  split at h2
  ·rename_i hi
   subst hi
   exact⟨a,xs,e1,Same.seqT g2.sub ha,.inl ⟨rfl,Po.ret (R:=rV X.K) g2.sub h2 rv⟩⟩
  ·split at h2
   ·rename_i hi
    subst hi
    exact⟨a,xs,e1,Same.seqT g2.sub ha,.inr ⟨rfl,fun p hp=>h2 _ _ _ (Gr.alloc g2.sub hp _) (Gr.tup g2.sub hp (Reps.rev hr))⟩⟩
   ·exact h2.elim
 ·exact h2.elim
end
def eOIx (i:Nat)(fk:DSt->M D)(sd:DSt):M D:=match sd[i]? with
 |some (some (.ow ds))=>(fk sd).bind fun k=>(match k with
  |.int j=>(match atI ds j with
   |some d=>.ok d
   |none=>.bad)
  |_=>.bad)
 |_=>.bad
theorem pd_oix (i:Nat){X:Cx}{E:XK}{x:Str}{key:Expr}{p1 pos:Pos}{fk:DSt->M D}(hk:PEd X E key fk)(hs:PlainIx key)(hi:X.N[i]?=some x:=by rfl)(hvis:Vis X.env.scope x:=by first|exact Or.inl rfl|exact Or.inr (Or.inl rfl)|exact Or.inr (Or.inr rfl))
  (hd:(x==("__debug__" : Str))=false:=by decide) (hcd:(x==("__classdict__" : Str))=false:=by decide):PEd X E (.Subscript (.Name x p1) key pos) (eOIx i fk):=by
 obtain⟨tk,pk,qk⟩:=hk
 refine⟨_,pe_ix ix_seq (Ym hi hvis hd hcd) pk hs,fun H0 B Hf sd σ H Q sr h=>?_⟩
 unfold eOIx at h
 split at h
 case h_2=>exact h.elim
 rename_i ds ei
 obtain⟨p,z1,_,_,_⟩:=sr.ow i _ ei rfl
 refine⟨_,z1,qk H0 B Hf sd σ H _ sr (Po.bind h fun k y Hf1 H1 _ g1 ry h1=>?_)⟩
 split at h1
 ·rename_i j _
  split at h1
  ·rename_i d ed
   obtain⟨p',z1',_,_,xs,z4,z5⟩:=(sr.gr g1).ow i _ ei rfl
   rw[z1] at z1'
   cases z1'
   obtain⟨v,e1,e2⟩:=atI_rep z5 ed
   exact .inl ⟨p,xs,j,v,rfl,rep_int.mp ry,SqL.of z4,e1,Po.ret (R:=rV X.K) g1.sub h1 e2⟩
  ·exact h1.elim
 ·exact h1.elim
end DL
set_option maxRecDepth 100000
set_option maxHeartbeats 4000000
namespace Law
open PySem L2 DL
def top (i:Nat):Stmt:=PySem.Challenge.pw_selfsight_k46_joined_and_cut.main.body.getD i (.Pass ⟨0,0,0,0⟩)
abbrev Xm:Stmt:=top 12
abbrev Ys:Stmt:=top 13
abbrev s_is_edge:Stmt:=top 14
abbrev Q7:Stmt:=top 15
abbrev s_is_side:Stmt:=top 16
abbrev s_checked:Stmt:=top 17
abbrev s_faces:Stmt:=top 18
abbrev Yt:Stmt:=top 20
abbrev Yu:Stmt:=top 21
abbrev Yb:Stmt:=top 22
abbrev s_cut:Stmt:=top 23
abbrev s_l_cell:Stmt:=top 25
abbrev Y8:Stmt:=top 26
abbrev s_l_side:Stmt:=top 27
abbrev s_l_hall:Stmt:=top 28
abbrev Xn:Stmt:=top 29
abbrev Y9:Stmt:=top 30
abbrev s_l_joined:Stmt:=top 31
abbrev s_l_cut:Stmt:=top 32
abbrev Qt:Stmt:=top 33
abbrev Yd:Stmt:=top 33
abbrev Xf:Stmt:=top 34
abbrev s_law:Stmt:=top 35
def anc (c:Str):List Str:=if c == "NoHall" then ["NoHall", "SightError", "ValueError"] else []
abbrev sI_NoHall:Stmt:=inCls (top 2) 0
theorem scI_NoHall:FnScope ["self", "side"] ["self", "side"] (Zh sI_NoHall):=⟨rfl,rfl,rfl,by decide +kernel,rfl,by decide +kernel,by decide +kernel⟩
section
variable {P:Program} {w:World} {K:PySem.W.Frag} {mg:Str->Option Value} {base:Heap}
noncomputable def F_is_whole:List D->M S:=fnD 1 0
  (Qs (eAnd (eIs "int" (Zd 0)) (eNot (eIs "bool" (Zd 0)))))
theorem sc_is_whole:FnScope ["value"] ["value"] (Zh Xm):=⟨rfl,rfl,rfl,by decide +kernel,rfl,by decide +kernel,by decide +kernel⟩
theorem ok_is_whole {f:Addr}{fd:FuncData} (F:Fun K "is_whole" "is_whole" Xm f fd) (z_isinstance:mg "isinstance" = none) (z_int:mg "int" = none) (z_bool:mg "bool" = none):FnOk P w K mg base CX0 1 f fd ["value"] (spN K F_is_whole) :=
 fn_d F sc_is_whole rfl rfl fun cdv A outer s H E hr =>
  (Zk (Zq (Xj (Xk "int" (by rfl) z_isinstance z_int (by rfl) (by rfl) (Zc 0)) (pd_one (pd_not (Xk "bool" (by rfl) z_isinstance z_bool (by rfl) (by rfl) (Zc 0)))))))
noncomputable def Zp:List D->M S:=fnD 3 0
  (Qs (eAnd (Z0 F_is_whole (Zb (Zd 0) Zj)) (eAnd (eOp gLe (Zd 1) (Zd 0)) (eOp gLe (Zd 0) (Zd 2)))))
theorem sc_is_from_to:FnScope ["value", "least", "greatest"] ["value", "least", "greatest"] (Zh Ys):=⟨rfl,rfl,rfl,by decide +kernel,rfl,by decide +kernel,by decide +kernel⟩
theorem ok_is_from_to {f:Addr}{fd:FuncData} (F:Fun K "is_from_to" "is_from_to" Ys f fd) {f_is_whole:Addr} {fd_is_whole:FuncData} (G_is_whole:FnOk P w K mg base CX0 1 f_is_whole fd_is_whole ["value"] (spN K F_is_whole)) (b_is_whole:Binds K fd_is_whole ["value"] []) (k_is_whole:PySem.W.keepIn K (.ref f_is_whole)=true) (m_is_whole:mg "is_whole" = some (.ref f_is_whole)):FnOk P w K mg base CX0 2 f fd ["value", "least", "greatest"] (spN K Zp) :=
 fn_d F sc_is_from_to rfl rfl fun cdv A outer s H E hr =>
  (Zk (Zq (Xj (Z1 G_is_whole (hr.mono (by decide)) m_is_whole k_is_whole b_is_whole (Za (Zc 0) Zf)) (Xj (Xh od_le (Zc 1) (Zc 0) (Zt _)) (pd_one (Xh od_le (Zc 0) (Zc 2) (Zt _)))))))
noncomputable def F_is_edge:List D->M S:=fnD 5 0
  (Zr (sIf (tB (eOp gEq (Zd 2) (eC (.str (Str.ofString "up"))))) (Qs (eAnd (Z0 Zp (Zb (Zd 3) (Zb (eC (.int 0)) (Zb (Zd 0) Zj)))) (Z0 Zp (Zb (Zd 4) (Zb (eC (.int 0)) (Zb (eOp gSub (Zd 1) (eC (.int 1))) Zj)))))) Yl)
   (Zr (sIf (tB (eOp gEq (Zd 2) (eC (.str (Str.ofString "flat"))))) (Qs (eAnd (Z0 Zp (Zb (Zd 3) (Zb (eC (.int 0)) (Zb (eOp gSub (Zd 0) (eC (.int 1))) Zj)))) (Z0 Zp (Zb (Zd 4) (Zb (eC (.int 0)) (Zb (Zd 1) Zj)))))) Yl)
   (Qs (eC (.bl false)))))
theorem sc_is_edge:FnScope ["width", "height", "kind", "x", "y"] ["width", "height", "kind", "x", "y"] (Zh s_is_edge):=⟨rfl,rfl,rfl,by decide +kernel,rfl,by decide +kernel,by decide +kernel⟩
theorem ok_is_edge {f:Addr}{fd:FuncData} (F:Fun K "is_edge" "is_edge" s_is_edge f fd) {f_is_from_to:Addr} {fd_is_from_to:FuncData} (G_is_from_to:FnOk P w K mg base CX0 2 f_is_from_to fd_is_from_to ["value", "least", "greatest"] (spN K Zp)) (b_is_from_to:Binds K fd_is_from_to ["value", "least", "greatest"] []) (k_is_from_to:PySem.W.keepIn K (.ref f_is_from_to)=true) (m_is_from_to:mg "is_from_to" = some (.ref f_is_from_to)):FnOk P w K mg base CX0 3 f fd ["width", "height", "kind", "x", "y"] (spN K F_is_edge) :=
 fn_d F sc_is_edge rfl rfl fun cdv A outer s H E hr =>
  (Zi (Qd (Zx (Yi hr.units) (Zc 2) Qf (Zt _)) (Zk (Zq (Xj (Z1 G_is_from_to (hr.mono (by decide)) m_is_from_to k_is_from_to b_is_from_to (Za (Zc 3) (Za Ze (Za (Zc 0) Zf)))) (pd_one (Z1 G_is_from_to (hr.mono (by decide)) m_is_from_to k_is_from_to b_is_from_to (Za (Zc 4) (Za Ze (Za (Zw od_sub (Zc 1) Ze) Zf)))))))) Z9)
   (Zi (Qd (Zx (Yi hr.units) (Zc 2) Qf (Zt _)) (Zk (Zq (Xj (Z1 G_is_from_to (hr.mono (by decide)) m_is_from_to k_is_from_to b_is_from_to (Za (Zc 3) (Za Ze (Za (Zw od_sub (Zc 0) Ze) Zf)))) (pd_one (Z1 G_is_from_to (hr.mono (by decide)) m_is_from_to k_is_from_to b_is_from_to (Za (Zc 4) (Za Ze (Za (Zc 1) Zf)))))))) Z9)
   (Zk (Zq pd_bl))))
noncomputable def Qu:List D->M S:=fnD 5 2
  (Zr (Qk 5 (eIf (tB (eOp gEq (Zd 2) (eC (.str (Str.ofString "up"))))) (Zd 3) (Zd 4)))
   (Zr (Qk 6 (eIf (tB (eOp gEq (Zd 2) (eC (.str (Str.ofString "up"))))) (Zd 0) (Zd 1)))
   (Zr (sIf (tB (eOp gEq (Zd 5) (eC (.int 0)))) (Qs (eC (.int 3))) Yl)
   (Zr (sIf (tB (eOp gEq (Zd 5) (Zd 6))) (Qs (eC (.int 4))) Yl)
   (Qs (eC .non))))))
theorem sc_outward_face:FnScope ["width", "height", "kind", "x", "y", "line", "last"] ["width", "height", "kind", "x", "y"] (Zh Q7):=⟨rfl,rfl,rfl,by decide +kernel,rfl,by decide +kernel,by decide +kernel⟩
theorem ok_outward_face {f:Addr}{fd:FuncData} (F:Fun K "outward_face" "outward_face" Q7 f fd)  : FnOk P w K mg base CX0 1 f fd ["width", "height", "kind", "x", "y"] (spN K Qu) :=
 fn_d F sc_outward_face rfl rfl fun cdv A outer s H E hr =>
  (Zi (Z7 5 sc_outward_face.nd (pd_ifexp (Zx (Yi hr.units) (Zc 2) Qf (Zt _)) (Zc 3) (Zc 4)))
   (Zi (Z7 6 sc_outward_face.nd (pd_ifexp (Zx (Yi hr.units) (Zc 2) Qf (Zt _)) (Zc 0) (Zc 1)))
   (Zi (Qd (Zx (Yi hr.units) (Zc 5) Ze (Zt _)) (Zk (Zq Ze)) Z9)
   (Zi (Qd (Zx (Yi hr.units) (Zc 5) (Zc 6) (Zt _)) (Zk (Zq Ze)) Z9)
   (Zk (Zq Q3))))))
noncomputable def F_is_side:List D->M S:=fnD 3 1
  (Zr (sIf (tN (tB (Z0 F_is_edge (Zb (Zd 0) (Zb (Zd 1) (Zb (eOp gIx (Zd 2) (eC (.int 0))) (Zb (eOp gIx (Zd 2) (eC (.int 1))) (Zb (eOp gIx (Zd 2) (eC (.int 2))) Zj)))))))) (Qs (eC (.bl false))) Yl)
   (Zr (sIf (tO (tB (eUn (gInC [V.str (Str.ofString "m"),V.str (Str.ofString "p")] true) (eOp gIx (Zd 2) (eC (.int 3))))) (tB (eUn (gInC [V.str (Str.ofString "m"),V.str (Str.ofString "p")] true) (eOp gIx (Zd 2) (eC (.int 4)))))) (Qs (eC (.bl false))) Yl)
   (Zr (Qk 3 (Z0 Qu (Zb (Zd 0) (Zb (Zd 1) (Zb (eOp gIx (Zd 2) (eC (.int 0))) (Zb (eOp gIx (Zd 2) (eC (.int 1))) (Zb (eOp gIx (Zd 2) (eC (.int 2))) Zj)))))))
   (Qs (eOr (eOp gIsN (Zd 3) (eC .non)) (eOp gEq (eOp gIx (Zd 2) (Zd 3)) (eC (.str (Str.ofString "p")))))))))
theorem sc_is_side:FnScope ["width", "height", "side", "outward"] ["width", "height", "side"] (Zh s_is_side):=⟨rfl,rfl,rfl,by decide +kernel,rfl,by decide +kernel,by decide +kernel⟩
theorem ok_is_side {f:Addr}{fd:FuncData} (F:Fun K "is_side" "is_side" s_is_side f fd) {f_is_edge:Addr} {fd_is_edge:FuncData} (G_is_edge:FnOk P w K mg base CX0 3 f_is_edge fd_is_edge ["width", "height", "kind", "x", "y"] (spN K F_is_edge)) (b_is_edge:Binds K fd_is_edge ["width", "height", "kind", "x", "y"] []) (k_is_edge:PySem.W.keepIn K (.ref f_is_edge)=true) (m_is_edge:mg "is_edge" = some (.ref f_is_edge)) {f_outward_face:Addr} {fd_outward_face:FuncData} (G_outward_face:FnOk P w K mg base CX0 1 f_outward_face fd_outward_face ["width", "height", "kind", "x", "y"] (spN K Qu)) (b_outward_face:Binds K fd_outward_face ["width", "height", "kind", "x", "y"] []) (k_outward_face:PySem.W.keepIn K (.ref f_outward_face)=true) (m_outward_face:mg "outward_face" = some (.ref f_outward_face)) {at_FACES:Addr} (mt_FACES:mg "FACES" = some (.ref at_FACES)) (tb_FACES:tupB K at_FACES [V.str (Str.ofString "m"),V.str (Str.ofString "p")]=true):FnOk P w K mg base CX0 4 f fd ["width", "height", "side"] (spN K F_is_side) :=
 fn_d F sc_is_side rfl rfl fun cdv A outer s H E hr =>
  (Zi (Qd (Yp (Yh (Z1 G_is_edge (hr.mono (by decide)) m_is_edge k_is_edge b_is_edge (Za (Zc 0) (Za (Zc 1) (Za (Zl (Zc 2) Ze (fun _ _=>rfl)) (Za (Zl (Zc 2) Ze (fun _ _=>rfl)) (Za (Zl (Zc 2) Ze (fun _ _=>rfl)) Zf)))))))) (Zk (Zq pd_bl)) Z9)
   (Zi (Qd ((pwd_or (ptd_notinC mt_FACES tb_FACES (Zl (Zc 2) Ze (fun _ _=>rfl))) (pwd_or1 (ptd_notinC mt_FACES tb_FACES (Zl (Zc 2) Ze (fun _ _=>rfl)))))).pt (Zk (Zq pd_bl)) Z9)
   (Zi (Z7 3 sc_is_side.nd (Z1 G_outward_face (hr.mono (by decide)) m_outward_face k_outward_face b_outward_face (Za (Zc 0) (Za (Zc 1) (Za (Zl (Zc 2) Ze (fun _ _=>rfl)) (Za (Zl (Zc 2) Ze (fun _ _=>rfl)) (Za (Zl (Zc 2) Ze (fun _ _=>rfl)) Zf)))))))
   (Zk (Zq (pd_or (Xh od_isN (Zc 3) Q3 (Zt _)) (pd_one (Xh (Yi hr.units) (Zl (Zc 2) (Zc 3) (fun _ _=>rfl)) Qf (Zt _)))))))))
noncomputable def Qx:List D->M S:=fnD 1 5
  (Zr (Qk 1 (eOp gIx (Zd 0) (eC (.int 0))))
   (Zr (Qk 2 (eOp gIx (Zd 0) (eC (.int 1))))
   (Zr (sIf (tO (tN (tB (Z0 Zp (Zb (Zd 1) (Zb (eC (.int 1)) (Zb (eC (.int 8)) Zj)))))) (tN (tB (Z0 Zp (Zb (Zd 2) (Zb (eC (.int 1)) (Zb (eC (.int 8)) Zj))))))) (sRaise "NoHall" "side" (Zb (eC .non) Zj)) Yl)
   (Zr (sDNewT 3)
   (Zr (sFor (iEnumT (Zb (eOp gIx (Zd 0) (eC (.int 2))) Zj)) (gTupD 2 (Qa (gNm 4) (Qa (gNm 5) gsNil))) (Zr (sIf (tO (tN (tB (Z0 F_is_side (Zb (Zd 1) (Zb (Zd 2) (Zb (Zd 5) Zj)))))) (tB (eDIn 3 (eSl (Zd 5) Y6 (Y7 (eC (.int 3))))))) (sRaise "NoHall" "side" (Zb (Zd 4) Zj)) Yl)
   (sDPut 3 (eSl (Zd 5) Y6 (Y7 (eC (.int 3)))) (eC (.bl true)))))
   (Qs (Qn (Zb (Zd 1) (Zb (Zd 2) (Zb (eCB bTuple (Zb (eCB bSortG (Zb (eOp gIx (Zd 0) (eC (.int 2))) Zj)) Zj)) Zj))))))))))
theorem sc_checked:FnScope ["hall", "width", "height", "told", "number", "side"] ["hall"] (Zh s_checked):=⟨rfl,rfl,rfl,by decide +kernel,rfl,by decide +kernel,by decide +kernel⟩
theorem ok_checked {f:Addr}{fd:FuncData} (F:Fun K "checked" "checked" s_checked f fd) {f_is_from_to:Addr} {fd_is_from_to:FuncData} (G_is_from_to:FnOk P w K mg base CX0 2 f_is_from_to fd_is_from_to ["value", "least", "greatest"] (spN K Zp)) (b_is_from_to:Binds K fd_is_from_to ["value", "least", "greatest"] []) (k_is_from_to:PySem.W.keepIn K (.ref f_is_from_to)=true) (m_is_from_to:mg "is_from_to" = some (.ref f_is_from_to)) {f_is_side:Addr} {fd_is_side:FuncData} (G_is_side:FnOk P w K mg base CX0 4 f_is_side fd_is_side ["width", "height", "side"] (spN K F_is_side)) (b_is_side:Binds K fd_is_side ["width", "height", "side"] []) (k_is_side:PySem.W.keepIn K (.ref f_is_side)=true) (m_is_side:mg "is_side" = some (.ref f_is_side)) {tk_GREATEST_SIZE:Tok} (gi_GREATEST_SIZE:mg "GREATEST_SIZE" = some (.int 8 tk_GREATEST_SIZE)) {C_NoHall:Addr} (ya_NoHall:PySem.W.nsIn K mainGlobals "NoHall" = some (some (.ref C_NoHall))) (mc_NoHall:mg "NoHall" = some (.ref C_NoHall)) {fI_NoHall:Addr} {fdI_NoHall:FuncData} (ye_NoHall:exInit K C_NoHall fI_NoHall=true) (yp_NoHall:PySem.W.keepIn K (.ref C_NoHall)=true) (yf_NoHall:PySem.W.isFn K (.ref fI_NoHall)=true) (I_NoHall:FnOk P w K mg base CX0 1 fI_NoHall fdI_NoHall ["self", "side"] (spI C_NoHall "side")) (bI_NoHall:Binds K fdI_NoHall ["self", "side"] []) (z_enumerate:mg "enumerate" = none) (z_sorted:mg "sorted" = none) (z_tuple:mg "tuple" = none):FnOk P w K mg base (CX1 P w) 5 f fd ["hall"] (spX K Qx) :=
 fn_x F sc_checked rfl rfl fun cdv A outer s H E hr =>
  (Zi (Z7 1 sc_checked.nd (Zl (Zc 0) Ze (fun _ _=>rfl)))
   (Zi (Z7 2 sc_checked.nd (Zl (Zc 0) Ze (fun _ _=>rfl)))
   (Zi (Qd ((pwd_or (Yp (Yh (Z1 G_is_from_to (hr.mono (by decide)) m_is_from_to k_is_from_to b_is_from_to (Za (Zc 1) (Za Ze (Za (pd_globI gi_GREATEST_SIZE) Zf)))))) (pwd_or1 (Yp (Yh (Z1 G_is_from_to (hr.mono (by decide)) m_is_from_to k_is_from_to b_is_from_to (Za (Zc 2) (Za Ze (Za (pd_globI gi_GREATEST_SIZE) Zf))))))))).pt (Zk (psd_raise out_fn rfl (xc_of ye_NoHall) yp_NoHall yf_NoHall I_NoHall (hr.mono (by decide)) bI_NoHall mc_NoHall ya_NoHall (Za Q3 Zf))) Z9)
   (Zi (psd_dnewT 3 sc_checked.nd)
   (Zi (Yk PassesOwn.leaving rfl (pid_enumT (by rfl) z_enumerate (Za (Zl (Zc 0) Ze (fun _ _=>rfl)) Zf)) (pgd_tup rfl (Qb (Zs 4 sc_checked.nd) (Qb (Zs 5 sc_checked.nd) pgsd_nil))) (Zi (Qd ((pwd_or (Yp (Yh (Z1 G_is_side (hr.mono (by decide)) m_is_side k_is_side b_is_side (Za (Zc 1) (Za (Zc 2) (Za (Zc 5) Zf)))))) (pwd_or1 (ptd_din 3 hr.units (pd_slice (Zc 5) pod_none (pod_some Ze)))))).pt (Zk (psd_raise out_fn rfl (xc_of ye_NoHall) yp_NoHall yf_NoHall I_NoHall (hr.mono (by decide)) bI_NoHall mc_NoHall ya_NoHall (Za (Zc 4) Zf))) Z9)
   (Zk (psd_dput 3 hr.units (pd_slice (Zc 5) pod_none (pod_some Ze)) pd_bl))))
   (Zk (Zq (Qp (Za (Zc 1) (Za (Zc 2) (Za (pd_callT cd_tuple (by rfl) z_tuple (by rfl) (Za (pd_callB cd_sortG (by rfl) z_sorted (by rfl) (Za (Zl (Zc 0) Ze (fun _ _=>rfl)) Zf)) Zf)) Zf)))))))))))
noncomputable def F_faces:List D->M S:=fnD 4 1
  (Zr (sFor (iSeq (eOp gIx (Zd 0) (eC (.int 2)))) (gNm 4) (sIf (tB (eOp gEq (eSl (Zd 4) Y6 (Y7 (eC (.int 3)))) (Qn (Zb (Zd 1) (Zb (Zd 2) (Zb (Zd 3) Zj)))))) (Qs (eSl (Zd 4) (Y7 (eC (.int 3))) Y6)) Yl))
   (Zr (sIf (tB (eOp gIsN (Z0 Qu (Zb (eOp gIx (Zd 0) (eC (.int 0))) (Zb (eOp gIx (Zd 0) (eC (.int 1))) (Zb (Zd 1) (Zb (Zd 2) (Zb (Zd 3) Zj)))))) (eC .non))) (Qs (eC .non)) Yl)
   (Qs (Qn (Zb (eC (.str (Str.ofString "p"))) (Zb (eC (.str (Str.ofString "p"))) Zj))))))
theorem sc_faces:FnScope ["hall", "kind", "x", "y", "side"] ["hall", "kind", "x", "y"] (Zh s_faces):=⟨rfl,rfl,rfl,by decide +kernel,rfl,by decide +kernel,by decide +kernel⟩
theorem ok_faces {f:Addr}{fd:FuncData} (F:Fun K "faces" "faces" s_faces f fd) {f_outward_face:Addr} {fd_outward_face:FuncData} (G_outward_face:FnOk P w K mg base CX0 1 f_outward_face fd_outward_face ["width", "height", "kind", "x", "y"] (spN K Qu)) (b_outward_face:Binds K fd_outward_face ["width", "height", "kind", "x", "y"] []) (k_outward_face:PySem.W.keepIn K (.ref f_outward_face)=true) (m_outward_face:mg "outward_face" = some (.ref f_outward_face)):FnOk P w K mg base CX0 2 f fd ["hall", "kind", "x", "y"] (spN K F_faces) :=
 fn_d F sc_faces rfl rfl fun cdv A outer s H E hr =>
  (Zi (Yk PassesOwn.never rfl (pid_seq (Zl (Zc 0) Ze (fun _ _=>rfl))) (Zs 4 sc_faces.nd) (Zk (Qd (Zx (Yi hr.units) (pd_slice (Zc 4) pod_none (pod_some Ze)) (Qp (Za (Zc 1) (Za (Zc 2) (Za (Zc 3) Zf)))) (Zt _)) (Zk (Zq (pd_slice (Zc 4) (pod_some Ze) pod_none))) Z9)))
   (Zi (Qd (Zx od_isN (Z1 G_outward_face (hr.mono (by decide)) m_outward_face k_outward_face b_outward_face (Za (Zl (Zc 0) Ze (fun _ _=>rfl)) (Za (Zl (Zc 0) Ze (fun _ _=>rfl)) (Za (Zc 1) (Za (Zc 2) (Za (Zc 3) Zf)))))) Q3 (Zt _)) (Zk (Zq Q3)) Z9)
   (Zk (Zq (Qp (Za Qf (Za Qf Zf)))))))
noncomputable def Q2:List D->M S:=fnD 2 0
  (Qs (Qn (Zb (eOp gIx (Zd 0) (eC (.int 0))) (Zb (eOp Zu (eOp gIx (Zd 0) (eC (.int 1))) (Zd 1)) (Zb (eOp gIx (Zd 0) (eC (.int 2))) (Zb (eOp gIx (Zd 0) (eC (.int 3))) (Zb (eOp gIx (Zd 0) (eC (.int 4))) Zj)))))))
theorem sc_moved_side:FnScope ["side", "by"] ["side", "by"] (Zh Yt):=⟨rfl,rfl,rfl,by decide +kernel,rfl,by decide +kernel,by decide +kernel⟩
theorem ok_moved_side {f:Addr}{fd:FuncData} (F:Fun K "moved_side" "moved_side" Yt f fd)  : FnOk P w K mg base CX0 1 f fd ["side", "by"] (spN K Q2) :=
 fn_d F sc_moved_side rfl rfl fun cdv A outer s H E hr =>
  (Zk (Zq (Qp (Za (Zl (Zc 0) Ze (fun _ _=>rfl)) (Za (Zw Qi (Zl (Zc 0) Ze (fun _ _=>rfl)) (Zc 1)) (Za (Zl (Zc 0) Ze (fun _ _=>rfl)) (Za (Zl (Zc 0) Ze (fun _ _=>rfl)) (Za (Zl (Zc 0) Ze (fun _ _=>rfl)) Zf))))))))
noncomputable def Qm:List D->M S:=fnD 2 0
  (Qs (eAnd (eOp gEq (eOp gIx (Zd 0) (eC (.int 0))) (eC (.str (Str.ofString "up")))) (eOp gEq (eOp gIx (Zd 0) (eC (.int 1))) (Zd 1))))
theorem sc_is_at_line:FnScope ["side", "x"] ["side", "x"] (Zh Yu):=⟨rfl,rfl,rfl,by decide +kernel,rfl,by decide +kernel,by decide +kernel⟩
theorem ok_is_at_line {f:Addr}{fd:FuncData} (F:Fun K "is_at_line" "is_at_line" Yu f fd)  : FnOk P w K mg base CX0 1 f fd ["side", "x"] (spN K Qm) :=
 fn_d F sc_is_at_line rfl rfl fun cdv A outer s H E hr =>
  (Zk (Zq (Xj (Xh (Yi hr.units) (Zl (Zc 0) Ze (fun _ _=>rfl)) Qf (Zt _)) (pd_one (Xh (Yi hr.units) (Zl (Zc 0) Ze (fun _ _=>rfl)) (Zc 1) (Zt _))))))
noncomputable def Qv:List D->M S:=fnD 2 5
  (Zr (sIf (tB (eOp gNe (eOp gIx (Zd 0) (eC (.int 1))) (eOp gIx (Zd 1) (eC (.int 1))))) (sRaise "NoHall" "side" (Zb (eC .non) Zj)) Yl)
   (Zr (Qk 2 (eOp gIx (Zd 0) (eC (.int 0))))
   (Zr (Qk 3 (eNew (Xe (iSeq (eOp gIx (Zd 0) (eC (.int 2)))) 1 [2] (gNm 0) (tN (tB (Z0 Qm (Zb (Zd 0) (Zb (Zd 1) Zj))))) (Zd 0))))
   (Zr (Qk 4 (eNew (Xe (iSeq (eOp gIx (Zd 1) (eC (.int 2)))) 1 [2] (gNm 0) (tN (tB (Z0 Qm (Zb (Zd 0) (Zb (eC (.int 0)) Zj))))) (Z0 Q2 (Zb (Zd 0) (Zb (Zd 1) Zj))))))
   (Zr (sOwn 5 (fLst Zj))
   (Zr (sFor (Yj (Zb (eOp gIx (Zd 0) (eC (.int 1))) Zj)) (gNm 6) (Yx 5 (Qn (Zb (eC (.str (Str.ofString "up"))) (Zb (Zd 2) (Zb (Zd 6) (Zb (eOp gIx (Z0 F_faces (Zb (Zd 0) (Zb (eC (.str (Str.ofString "up"))) (Zb (Zd 2) (Zb (Zd 6) Zj))))) (eC (.int 0))) (Zb (eOp gIx (Z0 F_faces (Zb (Zd 1) (Zb (eC (.str (Str.ofString "up"))) (Zb (eC (.int 0)) (Zb (Zd 6) Zj))))) (eC (.int 1))) Zj))))))))
   (sFrz 5 (Qs (eCallX Qx (Zb (Qn (Zb (eOp Zu (Zd 2) (eOp gIx (Zd 1) (eC (.int 0)))) (Zb (eOp gIx (Zd 0) (eC (.int 1))) (Zb (eCB bTuple (Zb (eOp Zu (eOp Zu (Zd 3) (Zd 5)) (Zd 4)) Zj)) Zj)))) Zj))))))))))
theorem sc_joined:FnScope ["one", "other", "line", "left", "right", "between", "y"] ["one", "other"] (Zh Yb):=⟨rfl,rfl,rfl,by decide +kernel,rfl,by decide +kernel,by decide +kernel⟩
theorem ok_joined {f:Addr}{fd:FuncData} (F:Fun K "joined" "joined" Yb f fd) {f_is_at_line:Addr} {fd_is_at_line:FuncData} (G_is_at_line:FnOk P w K mg base CX0 1 f_is_at_line fd_is_at_line ["side", "x"] (spN K Qm)) (b_is_at_line:Binds K fd_is_at_line ["side", "x"] []) (k_is_at_line:PySem.W.keepIn K (.ref f_is_at_line)=true) (m_is_at_line:mg "is_at_line" = some (.ref f_is_at_line)) {f_moved_side:Addr} {fd_moved_side:FuncData} (G_moved_side:FnOk P w K mg base CX0 1 f_moved_side fd_moved_side ["side", "by"] (spN K Q2)) (b_moved_side:Binds K fd_moved_side ["side", "by"] []) (k_moved_side:PySem.W.keepIn K (.ref f_moved_side)=true) (m_moved_side:mg "moved_side" = some (.ref f_moved_side)) {f_faces:Addr} {fd_faces:FuncData} (G_faces:FnOk P w K mg base CX0 2 f_faces fd_faces ["hall", "kind", "x", "y"] (spN K F_faces)) (b_faces:Binds K fd_faces ["hall", "kind", "x", "y"] []) (k_faces:PySem.W.keepIn K (.ref f_faces)=true) (m_faces:mg "faces" = some (.ref f_faces)) {Yf:Addr} {fd_checked:FuncData} (G_checked:FnOk P w K mg base (CX1 P w) 5 Yf fd_checked ["hall"] (spX K Qx)) (b_checked:Binds K fd_checked ["hall"] []) (k_checked:PySem.W.keepIn K (.ref Yf)=true) (m_checked:mg "checked" = some (.ref Yf)) {C_NoHall:Addr} (ya_NoHall:PySem.W.nsIn K mainGlobals "NoHall" = some (some (.ref C_NoHall))) (mc_NoHall:mg "NoHall" = some (.ref C_NoHall)) {fI_NoHall:Addr} {fdI_NoHall:FuncData} (ye_NoHall:exInit K C_NoHall fI_NoHall=true) (yp_NoHall:PySem.W.keepIn K (.ref C_NoHall)=true) (yf_NoHall:PySem.W.isFn K (.ref fI_NoHall)=true) (I_NoHall:FnOk P w K mg base CX0 1 fI_NoHall fdI_NoHall ["self", "side"] (spI C_NoHall "side")) (bI_NoHall:Binds K fdI_NoHall ["self", "side"] []) (z_range:mg "range" = none) (z_tuple:mg "tuple" = none):FnOk P w K mg base (CX1 P w) 6 f fd ["one", "other"] (spX K Qv) :=
 fn_x F sc_joined rfl rfl fun cdv A outer s H E hr =>
  (Zi (Qd (Zx (od_ne hr.units) (Zl (Zc 0) Ze (fun _ _=>rfl)) (Zl (Zc 1) Ze (fun _ _=>rfl)) (Zt _)) (Zk (psd_raise out_fn rfl (xc_of ye_NoHall) yp_NoHall yf_NoHall I_NoHall (hr.mono (by decide)) bI_NoHall mc_NoHall ya_NoHall (Za Q3 Zf))) Z9)
   (Zi (Z7 2 sc_joined.nd (Zl (Zc 0) Ze (fun _ _=>rfl)))
   (Zi (psd_setCI 3 sc_joined.nd (Nc:=["side", "line"]) rfl (closure_eq (fun y hy hf=>Yz (capF (sc:=Zh Yb) (by decide +kernel) y hy hf))) (capN (sc:=Zh Yb) rfl rfl (by decide +kernel) (capF (by decide +kernel)) (fun y hy hf=>Yz (capF (sc:=Zh Yb) (by decide +kernel) y hy hf)) rfl (capB_ok (N:=["one", "other", "line", "left", "right", "between", "y"]) rfl (by decide +kernel))) rfl (by decide +kernel) (by decide +kernel) (keep_name (by decide)) (pid_seq (Zl (Zc 0) Ze (fun _ _=>rfl))) (fun s3 H3 C ex=>Zs 0 (show(["side", "line"]:List Str).Nodup by decide +kernel)) (fun s3 H3 C ex=>(Yp (Yh (Z1 G_is_at_line (hr.mono (by decide)) m_is_at_line k_is_at_line b_is_at_line (Za (Zc 0) (Za (Zc 1) Zf)))))) (fun s3 H3 C ex=>(Zc 0)))
   (Zi (psd_setCI 4 sc_joined.nd (Nc:=["side", "line"]) rfl (closure_eq (fun y hy hf=>Yz (capF (sc:=Zh Yb) (by decide +kernel) y hy hf))) (capN (sc:=Zh Yb) rfl rfl (by decide +kernel) (capF (by decide +kernel)) (fun y hy hf=>Yz (capF (sc:=Zh Yb) (by decide +kernel) y hy hf)) rfl (capB_ok (N:=["one", "other", "line", "left", "right", "between", "y"]) rfl (by decide +kernel))) rfl (by decide +kernel) (by decide +kernel) (keep_name (by decide)) (pid_seq (Zl (Zc 1) Ze (fun _ _=>rfl))) (fun s3 H3 C ex=>Zs 0 (show(["side", "line"]:List Str).Nodup by decide +kernel)) (fun s3 H3 C ex=>(Yp (Yh (Z1 G_is_at_line (hr.mono (by decide)) m_is_at_line k_is_at_line b_is_at_line (Za (Zc 0) (Za Ze Zf)))))) (fun s3 H3 C ex=>(Z1 G_moved_side (hr.mono (by decide)) m_moved_side k_moved_side b_moved_side (Za (Zc 0) (Za (Zc 1) Zf)))))
   (Zi (psd_own 5 sc_joined.nd (pfd_lst Zf))
   (Zi (Yk PassesOwn.leaving rfl (Y3 (by rfl) z_range (Za (Zl (Zc 0) Ze (fun _ _=>rfl)) Zf)) (Zs 6 sc_joined.nd) (Zk (Yq 5 (Qp (Za Qf (Za (Zc 2) (Za (Zc 6) (Za (Zl (Z1 G_faces (hr.mono (by decide)) m_faces k_faces b_faces (Za (Zc 0) (Za Qf (Za (Zc 2) (Za (Zc 6) Zf))))) Ze (fun _ _=>rfl)) (Za (Zl (Z1 G_faces (hr.mono (by decide)) m_faces k_faces b_faces (Za (Zc 1) (Za Qf (Za Ze (Za (Zc 6) Zf))))) Ze (fun _ _=>rfl)) Zf)))))))))
   (psd_frz 5 (Zk (Zq (pd_callX G_checked (hr.mono (by decide)) m_checked k_checked b_checked out_fn (Za (Qp (Za (Zw Qi (Zc 2) (Zl (Zc 1) Ze (fun _ _=>rfl))) (Za (Zl (Zc 0) Ze (fun _ _=>rfl)) (Za (pd_callT cd_tuple (by rfl) z_tuple (by rfl) (Za (Zw Qi (Zw Qi (Zc 3) (Zc 5)) (Zc 4)) Zf)) Zf)))) Zf)))))))))))
noncomputable def F_cut:List D->M S:=fnD 2 3
  (Zr (sIf (tN (tB (Z0 Zp (Zb (Zd 1) (Zb (eC (.int 1)) (Zb (eOp gSub (eOp gIx (Zd 0) (eC (.int 0))) (eC (.int 1))) Zj)))))) (sRaise "NoHall" "side" (Zb (eC .non) Zj)) Yl)
   (Zr (sOwn 2 (fLst Zj))
   (Zr (sOwn 3 (fLst Zj))
   (Zr (sFor (iSeq (eOp gIx (Zd 0) (eC (.int 2)))) (gNm 4) (sIf (tB (Z0 Qm (Zb (Zd 4) (Zb (Zd 1) Zj)))) (Zr (Yx 2 (Qn (Zb (eC (.str (Str.ofString "up"))) (Zb (Zd 1) (Zb (eOp gIx (Zd 4) (eC (.int 2))) (Zb (eOp gIx (Zd 4) (eC (.int 3))) (Zb (eC (.str (Str.ofString "p"))) Zj)))))))
   (Yx 3 (Qn (Zb (eC (.str (Str.ofString "up"))) (Zb (eC (.int 0)) (Zb (eOp gIx (Zd 4) (eC (.int 2))) (Zb (eC (.str (Str.ofString "p"))) (Zb (eOp gIx (Zd 4) (eC (.int 4))) Zj)))))))) (sIf (tB (eOp gLt (eOp gIx (Zd 4) (eC (.int 1))) (Zd 1))) (Yx 2 (Zd 4)) (Yx 3 (Z0 Q2 (Zb (Zd 4) (Zb (eUn gNeg (Zd 1)) Zj)))))))
   (sFrz 3 (sFrz 2 (Qs (Qn (Zb (eCallX Qx (Zb (Qn (Zb (Zd 1) (Zb (eOp gIx (Zd 0) (eC (.int 1))) (Zb (eCB bTuple (Zb (Zd 2) Zj)) Zj)))) Zj)) (Zb (eCallX Qx (Zb (Qn (Zb (eOp gSub (eOp gIx (Zd 0) (eC (.int 0))) (Zd 1)) (Zb (eOp gIx (Zd 0) (eC (.int 1))) (Zb (eCB bTuple (Zb (Zd 3) Zj)) Zj)))) Zj)) Zj))))))))))
theorem sc_cut:FnScope ["hall", "at", "left", "right", "side"] ["hall", "at"] (Zh s_cut):=⟨rfl,rfl,rfl,by decide +kernel,rfl,by decide +kernel,by decide +kernel⟩
theorem ok_cut {f:Addr}{fd:FuncData} (F:Fun K "cut" "cut" s_cut f fd) {f_is_from_to:Addr} {fd_is_from_to:FuncData} (G_is_from_to:FnOk P w K mg base CX0 2 f_is_from_to fd_is_from_to ["value", "least", "greatest"] (spN K Zp)) (b_is_from_to:Binds K fd_is_from_to ["value", "least", "greatest"] []) (k_is_from_to:PySem.W.keepIn K (.ref f_is_from_to)=true) (m_is_from_to:mg "is_from_to" = some (.ref f_is_from_to)) {f_is_at_line:Addr} {fd_is_at_line:FuncData} (G_is_at_line:FnOk P w K mg base CX0 1 f_is_at_line fd_is_at_line ["side", "x"] (spN K Qm)) (b_is_at_line:Binds K fd_is_at_line ["side", "x"] []) (k_is_at_line:PySem.W.keepIn K (.ref f_is_at_line)=true) (m_is_at_line:mg "is_at_line" = some (.ref f_is_at_line)) {f_moved_side:Addr} {fd_moved_side:FuncData} (G_moved_side:FnOk P w K mg base CX0 1 f_moved_side fd_moved_side ["side", "by"] (spN K Q2)) (b_moved_side:Binds K fd_moved_side ["side", "by"] []) (k_moved_side:PySem.W.keepIn K (.ref f_moved_side)=true) (m_moved_side:mg "moved_side" = some (.ref f_moved_side)) {Yf:Addr} {fd_checked:FuncData} (G_checked:FnOk P w K mg base (CX1 P w) 5 Yf fd_checked ["hall"] (spX K Qx)) (b_checked:Binds K fd_checked ["hall"] []) (k_checked:PySem.W.keepIn K (.ref Yf)=true) (m_checked:mg "checked" = some (.ref Yf)) {C_NoHall:Addr} (ya_NoHall:PySem.W.nsIn K mainGlobals "NoHall" = some (some (.ref C_NoHall))) (mc_NoHall:mg "NoHall" = some (.ref C_NoHall)) {fI_NoHall:Addr} {fdI_NoHall:FuncData} (ye_NoHall:exInit K C_NoHall fI_NoHall=true) (yp_NoHall:PySem.W.keepIn K (.ref C_NoHall)=true) (yf_NoHall:PySem.W.isFn K (.ref fI_NoHall)=true) (I_NoHall:FnOk P w K mg base CX0 1 fI_NoHall fdI_NoHall ["self", "side"] (spI C_NoHall "side")) (bI_NoHall:Binds K fdI_NoHall ["self", "side"] []) (z_tuple:mg "tuple" = none):FnOk P w K mg base (CX1 P w) 6 f fd ["hall", "at"] (spX K F_cut) :=
 fn_x F sc_cut rfl rfl fun cdv A outer s H E hr =>
  (Zi (Qd (Yp (Yh (Z1 G_is_from_to (hr.mono (by decide)) m_is_from_to k_is_from_to b_is_from_to (Za (Zc 1) (Za Ze (Za (Zw od_sub (Zl (Zc 0) Ze (fun _ _=>rfl)) Ze) Zf)))))) (Zk (psd_raise out_fn rfl (xc_of ye_NoHall) yp_NoHall yf_NoHall I_NoHall (hr.mono (by decide)) bI_NoHall mc_NoHall ya_NoHall (Za Q3 Zf))) Z9)
   (Zi (psd_own 2 sc_cut.nd (pfd_lst Zf))
   (Zi (psd_own 3 sc_cut.nd (pfd_lst Zf))
   (Zi (Yk PassesOwn.leaving rfl (pid_seq (Zl (Zc 0) Ze (fun _ _=>rfl))) (Zs 4 sc_cut.nd) (Zk (Qd (Yh (Z1 G_is_at_line (hr.mono (by decide)) m_is_at_line k_is_at_line b_is_at_line (Za (Zc 4) (Za (Zc 1) Zf)))) (Zi (Yq 2 (Qp (Za Qf (Za (Zc 1) (Za (Zl (Zc 4) Ze (fun _ _=>rfl)) (Za (Zl (Zc 4) Ze (fun _ _=>rfl)) (Za Qf Zf)))))))
   (Zk (Yq 3 (Qp (Za Qf (Za Ze (Za (Zl (Zc 4) Ze (fun _ _=>rfl)) (Za Qf (Za (Zl (Zc 4) Ze (fun _ _=>rfl)) Zf))))))))) (Zk (Qd (Zx od_lt (Zl (Zc 4) Ze (fun _ _=>rfl)) (Zc 1) (Zt _)) (Zk (Yq 2 (Zc 4))) (Zk (Yq 3 (Z1 G_moved_side (hr.mono (by decide)) m_moved_side k_moved_side b_moved_side (Za (Zc 4) (Za (pd_un ud_neg (Zc 1)) Zf))))))))))
   (psd_frz 3 (psd_frz 2 (Zk (Zq (Qp (Za (pd_callX G_checked (hr.mono (by decide)) m_checked k_checked b_checked out_fn (Za (Qp (Za (Zc 1) (Za (Zl (Zc 0) Ze (fun _ _=>rfl)) (Za (pd_callT cd_tuple (by rfl) z_tuple (by rfl) (Za (Zc 2) Zf)) Zf)))) Zf)) (Za (pd_callX G_checked (hr.mono (by decide)) m_checked k_checked b_checked out_fn (Za (Qp (Za (Zw od_sub (Zl (Zc 0) Ze (fun _ _=>rfl)) (Zc 1)) (Za (Zl (Zc 0) Ze (fun _ _=>rfl)) (Za (pd_callT cd_tuple (by rfl) z_tuple (by rfl) (Za (Zc 3) Zf)) Zf)))) Zf)) Zf)))))))))))
noncomputable def F_l_cell:List D->M S:=fnD 2 0
  (Zr (sIf (tB (eOp gLt (Zd 1) (eCB bLen (Zb (Zd 0) Zj)))) (Qs (eOp gIx (Zd 0) (Zd 1))) Yl)
   (Qs (eC (.int 0))))
theorem sc_l_cell:FnScope ["_law_script", "_law_k"] ["_law_script", "_law_k"] (Zh s_l_cell):=⟨rfl,rfl,rfl,by decide +kernel,rfl,by decide +kernel,by decide +kernel⟩
theorem ok_l_cell {f:Addr}{fd:FuncData} (F:Fun K "_law_cell" "_law_cell" s_l_cell f fd) (z_len:mg "len" = none):FnOk P w K mg base CX0 1 f fd ["_law_script", "_law_k"] (spN K F_l_cell) :=
 fn_d F sc_l_cell rfl rfl fun cdv A outer s H E hr =>
  (Zi (Qd (Zx od_lt (Zc 1) (pd_callB cd_len (by rfl) z_len (by rfl) (Za (Zc 0) Zf)) (Zt _)) (Zk (Zq (Zl (Zc 0) (Zc 1) (fun _ _=>rfl)))) Z9)
   (Zk (Zq Ze)))
noncomputable def Yo:List D->M S:=fnD 2 4
  (Zr (sOwn 2 (fLst Zj))
   (Zr (Qk 3 (eOp Qz (eOp Yw (eOp Zu (eOp Qz (Zd 0) (eC (.int 1999999973))) (eC (.int 31))) (eC (.int 765432101))) (eC (.int 1999999973))))
   (Zr (Qk 4 (eC (.int 0)))
   (Zr (sIf (tO (tB (eOp gLt (Zd 0) (eC (.int 0)))) (tB (eOp gGe (Zd 0) (eOp gPow (eC (.int 10)) (eC (.int 18)))))) (Qk 4 (eCB bAbs (Zb (Zd 0) Zj))) Yl)
   (Zr (sFor (Yj (Zb (Zd 1) Zj)) (gNm 5) (Zr (Qk 3 (eOp Qz (eOp Zu (eOp Zu (eOp Yw (Zd 3) (eOp Zu (eOp Qz (Zd 3) (eC (.int 65521))) (eC (.int 40487)))) (eOp Yw (eC (.int 7)) (Zd 5))) (eC (.int 5))) (eC (.int 1999999973))))
   (Zr (Yx 2 (eOp gIx (Xb (Zb (Zd 3) (Zb (eOp Qz (Zd 4) (eC (.int 1000000))) Zj))) (eCB bInt (Zb (eOp gGt (Zd 4) (eC (.int 0))) Zj))))
   (Qk 4 (eOp gFdiv (Zd 4) (eC (.int 1000000)))))))
   (sRetO 2))))))
theorem sc_l_numbers:FnScope ["_law_cell_here", "_law_many", "_law_found", "_law_number", "_law_digits", "_law_k"] ["_law_cell_here", "_law_many"] (Zh Y8):=⟨rfl,rfl,rfl,by decide +kernel,rfl,by decide +kernel,by decide +kernel⟩
theorem ok_l_numbers {f:Addr}{fd:FuncData} (F:Fun K "_law_numbers" "_law_numbers" Y8 f fd) (z_abs:mg "abs" = none) (z_range:mg "range" = none) (z_int:mg "int" = none):FnOk P w K mg base CX0 1 f fd ["_law_cell_here", "_law_many"] (spN K Yo) :=
 fn_d F sc_l_numbers rfl rfl fun cdv A outer s H E hr =>
  (Zi (psd_own 2 sc_l_numbers.nd (pfd_lst Zf))
   (Zi (Z7 3 sc_l_numbers.nd (Zw Yg (Zw od_times (Zw Qi (Zw Yg (Zc 0) Ze) Ze) Ze) Ze))
   (Zi (Z7 4 sc_l_numbers.nd Ze)
   (Zi (Qd ((pwd_or (Zx od_lt (Zc 0) Ze (Zt _)) (pwd_or1 (Zx od_ge (Zc 0) (Zw od_pow Ze Ze) (Zt _))))).pt (Zk (Z7 4 sc_l_numbers.nd (pd_callB cd_abs (by rfl) z_abs (by rfl) (Za (Zc 0) Zf)))) Z9)
   (Zi (Yk PassesOwn.never rfl (Y3 (by rfl) z_range (Za (Zc 1) Zf)) (Zs 5 sc_l_numbers.nd) (Zi (Z7 3 sc_l_numbers.nd (Zw Yg (Zw Qi (Zw Qi (Zw od_times (Zc 3) (Zw Qi (Zw Yg (Zc 3) Ze) Ze)) (Zw od_times Ze (Zc 5))) Ze) Ze))
   (Zi (Yq 2 (Zl (Xi (Za (Zc 3) (Za (Zw Yg (Zc 4) Ze) Zf))) (pd_callT cd_int (by rfl) z_int (by rfl) (Za (Xh od_gt (Zc 4) Ze (Zt _)) Zf)) (fun _ _=>rfl)))
   (Zk (Z7 4 sc_l_numbers.nd (Zw od_fdiv (Zc 4) Ze))))))
   (Zk (psd_retO 2)))))))
noncomputable def Y2:List D->M S:=fnD 6 2
  (Zr (Qk 6 (eOp gIx (eC (.str (Str.ofString "mpm"))) (eOp Qz (Zd 5) (eC (.int 3)))))
   (Zr (Qk 7 (eOp gIx (eC (.str (Str.ofString "mmp"))) (eOp Qz (eOp gFdiv (Zd 5) (eC (.int 3))) (eC (.int 3)))))
   (Zr (sIf (tO (tA (tB (eChain gLt gLt (eC (.int 0)) (Zd 3) (Zd 4))) (tB (eOp gGt (eOp Qz (eOp gFdiv (Zd 5) (eC (.int 9))) (eC (.int 3))) (eC (.int 0))))) (tA (tN (tB (eChain gLt gLt (eC (.int 0)) (Zd 3) (Zd 4)))) (tB (eOp gEq (eOp Qz (eOp gFdiv (Zd 5) (eC (.int 9))) (eC (.int 6))) (eC (.int 5)))))) (Qs (Xb Zj)) Yl)
   (Zr (sIf (tB (eOp gEq (Zd 3) (eC (.int 0)))) (Qk 6 (eC (.str (Str.ofString "p")))) Yl)
   (Zr (sIf (tB (eOp gEq (Zd 3) (Zd 4))) (Qk 7 (eC (.str (Str.ofString "p")))) Yl)
   (Qs (Xb (Zb (Qn (Zb (Zd 0) (Zb (Zd 1) (Zb (Zd 2) (Zb (Zd 6) (Zb (Zd 7) Zj)))))) Zj))))))))
theorem sc_l_side:FnScope ["_law_kind", "_law_x", "_law_y", "_law_at", "_law_end", "_law_number", "_law_one", "_law_other"] ["_law_kind", "_law_x", "_law_y", "_law_at", "_law_end", "_law_number"] (Zh s_l_side):=⟨rfl,rfl,rfl,by decide +kernel,rfl,by decide +kernel,by decide +kernel⟩
theorem ok_l_side {f:Addr}{fd:FuncData} (F:Fun K "_law_side" "_law_side" s_l_side f fd)  : FnOk P w K mg base CX0 1 f fd ["_law_kind", "_law_x", "_law_y", "_law_at", "_law_end", "_law_number"] (spN K Y2) :=
 fn_d F sc_l_side rfl rfl fun cdv A outer s H E hr =>
  (Zi (Z7 6 sc_l_side.nd (Zl Qf (Zw Yg (Zc 5) Ze) (fun _ _=>rfl)))
   (Zi (Z7 7 sc_l_side.nd (Zl Qf (Zw Yg (Zw od_fdiv (Zc 5) Ze) Ze) (fun _ _=>rfl)))
   (Zi (Qd ((pwd_or ((pwd_and (ptd_chain od_lt od_lt Ze (Zc 3) (Zc 4)) (pwd_and1 (Zx od_gt (Zw Yg (Zw od_fdiv (Zc 5) Ze) Ze) Ze (Zt _))))).pt (pwd_or1 ((pwd_and (Yp (ptd_chain od_lt od_lt Ze (Zc 3) (Zc 4))) (pwd_and1 (Zx (Yi hr.units) (Zw Yg (Zw od_fdiv (Zc 5) Ze) Ze) Ze (Zt _))))).pt))).pt (Zk (Zq (Xi Zf))) Z9)
   (Zi (Qd (Zx (Yi hr.units) (Zc 3) Ze (Zt _)) (Zk (Z7 6 sc_l_side.nd Qf)) Z9)
   (Zi (Qd (Zx (Yi hr.units) (Zc 3) (Zc 4) (Zt _)) (Zk (Z7 7 sc_l_side.nd Qf)) Z9)
   (Zk (Zq (Xi (Za (Qp (Za (Zc 0) (Za (Zc 1) (Za (Zc 2) (Za (Zc 6) (Za (Zc 7) Zf)))))) Zf)))))))))
noncomputable def F_l_hall:List D->M S:=fnD 3 4
  (Zr (sOwn 3 (fCall Yo (Zb (Zd 0) (Zb (eOp Zu (eOp Zu (eOp Yw (eOp Yw (eC (.int 2)) (Zd 1)) (Zd 2)) (Zd 1)) (Zd 2)) Zj))))
   (Zr (Qk 4 (Xb Zj))
   (Zr (sFor (Yj (Zb (eOp Zu (Zd 1) (eC (.int 1))) Zj)) (gNm 5) (sFor (Yj (Zb (Zd 2) Zj)) (gNm 6) (sSetX 4 (xOp Zu (Zd 4) (xCall Y2 (Qe (eC (.str (Str.ofString "up"))) (Qe (Zd 5) (Qe (Zd 6) (Qe (Zd 5) (Qe (Zd 1) (xaLast (xPop 3))))))))))))
   (Zr (sFor (Yj (Zb (Zd 1) Zj)) (gNm 5) (sFor (Yj (Zb (eOp Zu (Zd 2) (eC (.int 1))) Zj)) (gNm 6) (sSetX 4 (xOp Zu (Zd 4) (xCall Y2 (Qe (eC (.str (Str.ofString "flat"))) (Qe (Zd 5) (Qe (Zd 6) (Qe (Zd 6) (Qe (Zd 2) (xaLast (xPop 3))))))))))))
   (Qs (Qn (Zb (Zd 1) (Zb (Zd 2) (Zb (eCB bTuple (Zb (eCB bSortG (Zb (Zd 4) Zj)) Zj)) Zj)))))))))
theorem sc_l_hall:FnScope ["_law_cell_here", "_law_width", "_law_height", "_law_xs", "_law_sides", "_law_x", "_law_y"] ["_law_cell_here", "_law_width", "_law_height"] (Zh s_l_hall):=⟨rfl,rfl,rfl,by decide +kernel,rfl,by decide +kernel,by decide +kernel⟩
theorem ok_l_hall {f:Addr}{fd:FuncData} (F:Fun K "_law_hall" "_law_hall" s_l_hall f fd) {f_l_numbers:Addr} {fd_l_numbers:FuncData} (G_l_numbers:FnOk P w K mg base CX0 1 f_l_numbers fd_l_numbers ["_law_cell_here", "_law_many"] (spN K Yo)) (b_l_numbers:Binds K fd_l_numbers ["_law_cell_here", "_law_many"] []) (k_l_numbers:PySem.W.keepIn K (.ref f_l_numbers)=true) (m_l_numbers:mg "_law_numbers" = some (.ref f_l_numbers)) {f_l_side:Addr} {fd_l_side:FuncData} (G_l_side:FnOk P w K mg base CX0 1 f_l_side fd_l_side ["_law_kind", "_law_x", "_law_y", "_law_at", "_law_end", "_law_number"] (spN K Y2)) (b_l_side:Binds K fd_l_side ["_law_kind", "_law_x", "_law_y", "_law_at", "_law_end", "_law_number"] []) (k_l_side:PySem.W.keepIn K (.ref f_l_side)=true) (m_l_side:mg "_law_side" = some (.ref f_l_side)) (z_range:mg "range" = none) (z_sorted:mg "sorted" = none) (z_tuple:mg "tuple" = none):FnOk P w K mg base CX0 2 f fd ["_law_cell_here", "_law_width", "_law_height"] (spN K F_l_hall) :=
 fn_d F sc_l_hall rfl rfl fun cdv A outer s H E hr =>
  (Zi (psd_own 3 sc_l_hall.nd (pfd_call G_l_numbers (hr.mono (by decide)) m_l_numbers k_l_numbers b_l_numbers (Za (Zc 0) (Za (Zw Qi (Zw Qi (Zw od_times (Zw od_times Ze (Zc 1)) (Zc 2)) (Zc 1)) (Zc 2)) Zf))))
   (Zi (Z7 4 sc_l_hall.nd (Xi Zf))
   (Zi (Yk PassesOwn.never rfl (Y3 (by rfl) z_range (Za (Zw Qi (Zc 1) Ze) Zf)) (Zs 5 sc_l_hall.nd) (Zk (Yk PassesOwn.never rfl (Y3 (by rfl) z_range (Za (Zc 2) Zf)) (Zs 6 sc_l_hall.nd) (Zk (psx_set 4 sc_l_hall.nd (px_op Qi (Zc 4) (px_call G_l_side (hr.mono (by decide)) m_l_side k_l_side b_l_side (Y1 Qf (Y1 (Zc 5) (Y1 (Zc 6) (Y1 (Zc 5) (Y1 (Zc 1) (pxa_last (px_pop 3))))))))))))))
   (Zi (Yk PassesOwn.never rfl (Y3 (by rfl) z_range (Za (Zc 1) Zf)) (Zs 5 sc_l_hall.nd) (Zk (Yk PassesOwn.never rfl (Y3 (by rfl) z_range (Za (Zw Qi (Zc 2) Ze) Zf)) (Zs 6 sc_l_hall.nd) (Zk (psx_set 4 sc_l_hall.nd (px_op Qi (Zc 4) (px_call G_l_side (hr.mono (by decide)) m_l_side k_l_side b_l_side (Y1 Qf (Y1 (Zc 5) (Y1 (Zc 6) (Y1 (Zc 6) (Y1 (Zc 2) (pxa_last (px_pop 3))))))))))))))
   (Zk (Zq (Qp (Za (Zc 1) (Za (Zc 2) (Za (pd_callT cd_tuple (by rfl) z_tuple (by rfl) (Za (pd_callB cd_sortG (by rfl) z_sorted (by rfl) (Za (Zc 4) Zf)) Zf)) Zf))))))))))
noncomputable def Y5:List D->M S:=fnD 3 0
  (Qs (Qn (Zb (Zd 0) (Zb (Zd 1) (Zb (eCB bTuple (Zb (eCB bSortG (Zb (Zd 2) Zj)) Zj)) Zj)))))
theorem sc_l_sorted:FnScope ["_law_width", "_law_height", "_law_sides"] ["_law_width", "_law_height", "_law_sides"] (Zh Xn):=⟨rfl,rfl,rfl,by decide +kernel,rfl,by decide +kernel,by decide +kernel⟩
theorem ok_l_sorted {f:Addr}{fd:FuncData} (F:Fun K "_law_sorted" "_law_sorted" Xn f fd) (z_sorted:mg "sorted" = none) (z_tuple:mg "tuple" = none):FnOk P w K mg base CX0 1 f fd ["_law_width", "_law_height", "_law_sides"] (spN K Y5) :=
 fn_d F sc_l_sorted rfl rfl fun cdv A outer s H E hr =>
  (Zk (Zq (Qp (Za (Zc 0) (Za (Zc 1) (Za (pd_callT cd_tuple (by rfl) z_tuple (by rfl) (Za (pd_callB cd_sortG (by rfl) z_sorted (by rfl) (Za (Zc 2) Zf)) Zf)) Zf))))))
noncomputable def Xa:XV->List D->M S:=fnE 1 1
  (Zr (Qk 2 (Xb (Zb (Y4 0 ["NoHall"] anc "NoHiding") (Zb (Y4 0 ["NoHall"] anc "NoName") (Zb (Y4 0 ["NoHall"] anc "NoPerson") Zj)))))
   (Zr (Qk 2 (eOp Zu (Zd 2) (Xb (Zb (Y4 0 ["NoHall"] anc "NoRing") (Zb (Y4 0 ["NoHall"] anc "NoRow") (Zb (Y4 0 ["NoHall"] anc "NoText") Zj))))))
   (Zr (sIf (tO (tB (eOp gIn (eC (.bl true)) (Zd 2))) (tO (tN (tB (Y4 0 ["NoHall"] anc "NoHall"))) (tN (tB (Y4 0 ["NoHall"] anc "ValueError"))))) (Qs (eC (.bl false))) Yl)
   (Zr (sIf (tB (eOp gIsN (Zd 1) (eC .non))) (Qs (eOp gIsN (eFldX 0 ["NoHall"] "side") (eC .non))) Yl)
   (Qs (eAnd (eOp gEq (eFldX 0 ["NoHall"] "side") (Zd 1)) (eNot (eIs "bool" (eFldX 0 ["NoHall"] "side")))))))))
theorem sc_l_refused:FnScope ["_law_caught", "_law_side_here", "_law_kinds"] ["_law_caught", "_law_side_here"] (Zh Y9):=⟨rfl,rfl,rfl,by decide +kernel,rfl,by decide +kernel,by decide +kernel⟩
theorem ok_l_refused {f:Addr}{fd:FuncData} (F:Fun K "_law_refused" "_law_refused" Y9 f fd) {C_NoHall:Addr} (ya_NoHall:PySem.W.nsIn K mainGlobals "NoHall" = some (some (.ref C_NoHall))) (mc_NoHall:mg "NoHall" = some (.ref C_NoHall)) (kn_NoHall:XKnow K "NoHall" C_NoHall) {C_NoPerson:Addr} (ya_NoPerson:PySem.W.nsIn K mainGlobals "NoPerson" = some (some (.ref C_NoPerson))) (mc_NoPerson:mg "NoPerson" = some (.ref C_NoPerson)) (ko_NoHall_NoPerson:PySem.W.kitOne K (.ref C_NoHall) (.ref C_NoPerson)=some ((anc "NoHall").contains "NoPerson")) {C_NoName:Addr} (ya_NoName:PySem.W.nsIn K mainGlobals "NoName" = some (some (.ref C_NoName))) (mc_NoName:mg "NoName" = some (.ref C_NoName)) (ko_NoHall_NoName:PySem.W.kitOne K (.ref C_NoHall) (.ref C_NoName)=some ((anc "NoHall").contains "NoName")) {C_NoHiding:Addr} (ya_NoHiding:PySem.W.nsIn K mainGlobals "NoHiding" = some (some (.ref C_NoHiding))) (mc_NoHiding:mg "NoHiding" = some (.ref C_NoHiding)) (ko_NoHall_NoHiding:PySem.W.kitOne K (.ref C_NoHall) (.ref C_NoHiding)=some ((anc "NoHall").contains "NoHiding")) {C_NoText:Addr} (ya_NoText:PySem.W.nsIn K mainGlobals "NoText" = some (some (.ref C_NoText))) (mc_NoText:mg "NoText" = some (.ref C_NoText)) (ko_NoHall_NoText:PySem.W.kitOne K (.ref C_NoHall) (.ref C_NoText)=some ((anc "NoHall").contains "NoText")) {C_NoRow:Addr} (ya_NoRow:PySem.W.nsIn K mainGlobals "NoRow" = some (some (.ref C_NoRow))) (mc_NoRow:mg "NoRow" = some (.ref C_NoRow)) (ko_NoHall_NoRow:PySem.W.kitOne K (.ref C_NoHall) (.ref C_NoRow)=some ((anc "NoHall").contains "NoRow")) {C_NoRing:Addr} (ya_NoRing:PySem.W.nsIn K mainGlobals "NoRing" = some (some (.ref C_NoRing))) (mc_NoRing:mg "NoRing" = some (.ref C_NoRing)) (ko_NoHall_NoRing:PySem.W.kitOne K (.ref C_NoHall) (.ref C_NoRing)=some ((anc "NoHall").contains "NoRing")) (ko_NoHall_NoHall:PySem.W.kitOne K (.ref C_NoHall) (.ref C_NoHall)=some ((anc "NoHall").contains "NoHall")) (ko_NoHall_ValueError:PySem.W.kitOne K (.ref C_NoHall) (.type "ValueError")=some ((anc "NoHall").contains "ValueError")) (fn_NoHall_side:NoAttr K C_NoHall "side") (z_isinstance:mg "isinstance" = none) (z_ValueError:mg "ValueError" = none) (z_bool:mg "bool" = none):FnOk P w K mg base CX0 1 f fd ["_law_caught", "_law_side_here"] (spE K Xa) :=
 fn_e F sc_l_refused rfl rfl fun cdv A outer s H E hr =>
  (Zi (Z7 2 sc_l_refused.nd (Xi (Za (pd_instX 0 ["NoHall"] anc (.inl ⟨_,rfl⟩) (pe_glob (v:=.ref _) (by rfl) mc_NoHiding rfl) (fun _ _ _ h=>h) (Xl ⟨_,kn_NoHall,ko_NoHall_NoHiding⟩) z_isinstance) (Za (pd_instX 0 ["NoHall"] anc (.inl ⟨_,rfl⟩) (pe_glob (v:=.ref _) (by rfl) mc_NoName rfl) (fun _ _ _ h=>h) (Xl ⟨_,kn_NoHall,ko_NoHall_NoName⟩) z_isinstance) (Za (pd_instX 0 ["NoHall"] anc (.inl ⟨_,rfl⟩) (pe_glob (v:=.ref _) (by rfl) mc_NoPerson rfl) (fun _ _ _ h=>h) (Xl ⟨_,kn_NoHall,ko_NoHall_NoPerson⟩) z_isinstance) Zf)))))
   (Zi (Z7 2 sc_l_refused.nd (Zw Qi (Zc 2) (Xi (Za (pd_instX 0 ["NoHall"] anc (.inl ⟨_,rfl⟩) (pe_glob (v:=.ref _) (by rfl) mc_NoRing rfl) (fun _ _ _ h=>h) (Xl ⟨_,kn_NoHall,ko_NoHall_NoRing⟩) z_isinstance) (Za (pd_instX 0 ["NoHall"] anc (.inl ⟨_,rfl⟩) (pe_glob (v:=.ref _) (by rfl) mc_NoRow rfl) (fun _ _ _ h=>h) (Xl ⟨_,kn_NoHall,ko_NoHall_NoRow⟩) z_isinstance) (Za (pd_instX 0 ["NoHall"] anc (.inl ⟨_,rfl⟩) (pe_glob (v:=.ref _) (by rfl) mc_NoText rfl) (fun _ _ _ h=>h) (Xl ⟨_,kn_NoHall,ko_NoHall_NoText⟩) z_isinstance) Zf))))))
   (Zi (Qd ((pwd_or (Zx (od_in hr.units) pd_bl (Zc 2) (by with_unfolding_all rfl)) (pwd_or (Yp (Yh (pd_instX 0 ["NoHall"] anc (.inl ⟨_,rfl⟩) (pe_glob (v:=.ref _) (by rfl) mc_NoHall rfl) (fun _ _ _ h=>h) (Xl ⟨_,kn_NoHall,ko_NoHall_NoHall⟩) z_isinstance))) (pwd_or1 (Yp (Yh (pd_instX 0 ["NoHall"] anc (.inr ⟨_,rfl⟩) (pe_bltn (v:=.ty "ValueError") (by rfl) z_ValueError (by rfl) rfl (by decide) (by decide)) (fun _ _ _ h=>h) (Xl ⟨_,kn_NoHall,ko_NoHall_ValueError⟩) z_isinstance))))))).pt (Zk (Zq pd_bl)) Z9)
   (Zi (Qd (Zx od_isN (Zc 1) Q3 (Zt _)) (Zk (Zq (Xh od_isN (pd_fldX 0 ["NoHall"] (Xl ⟨_,kn_NoHall,fn_NoHall_side⟩)) Q3 (Zt _)))) Z9)
   (Zk (Zq (Xj (Xh (Yi hr.units) (pd_fldX 0 ["NoHall"] (Xl ⟨_,kn_NoHall,fn_NoHall_side⟩)) (Zc 1) (Zt _)) (pd_one (pd_not (Xk "bool" (by rfl) z_isinstance z_bool (by rfl) (by rfl) (pd_fldX 0 ["NoHall"] (Xl ⟨_,kn_NoHall,fn_NoHall_side⟩))))))))))))
noncomputable def F_l_joined:List D->M S:=fnD 2 8
  (Zr (sIf (tO (tB (eOp gNe (eOp gIx (Zd 0) (eC (.int 1))) (eOp gIx (Zd 1) (eC (.int 1))))) (tB (eOp gGt (eOp Zu (eOp gIx (Zd 0) (eC (.int 0))) (eOp gIx (Zd 1) (eC (.int 0)))) (eC (.int 8))))) (Qs (eC .non)) Yl)
   (Zr (sOwn 2 (fLst Zj))
   (Zr (sDNewK 3)
   (Zr (sDNewK 4)
   (Zr (sFor (iSeq (eOp gIx (Zd 0) (eC (.int 2)))) (gTupD 5 (Qa (gNm 5) (Qa (gNm 6) (Qa (gNm 7) (Qa (gNm 8) (Qa (gNm 9) gsNil)))))) (sIf (tA (tB (eOp gEq (Zd 5) (eC (.str (Str.ofString "up"))))) (tB (eOp gEq (Zd 6) (eOp gIx (Zd 0) (eC (.int 0)))))) (sDPut 3 (Zd 7) (Zd 8)) (Yx 2 (Qn (Zb (Zd 5) (Zb (Zd 6) (Zb (Zd 7) (Zb (Zd 8) (Zb (Zd 9) Zj)))))))))
   (Zr (sFor (iSeq (eOp gIx (Zd 1) (eC (.int 2)))) (gTupD 5 (Qa (gNm 5) (Qa (gNm 6) (Qa (gNm 7) (Qa (gNm 8) (Qa (gNm 9) gsNil)))))) (sIf (tA (tB (eOp gEq (Zd 5) (eC (.str (Str.ofString "up"))))) (tB (eOp gEq (Zd 6) (eC (.int 0))))) (sDPut 4 (Zd 7) (Zd 9)) (Yx 2 (Qn (Zb (Zd 5) (Zb (eOp Zu (Zd 6) (eOp gIx (Zd 0) (eC (.int 0)))) (Zb (Zd 7) (Zb (Zd 8) (Zb (Zd 9) Zj)))))))))
   (Zr (sFor (Yj (Zb (eOp gIx (Zd 0) (eC (.int 1))) Zj)) (gNm 7) (Yx 2 (Qn (Zb (eC (.str (Str.ofString "up"))) (Zb (eOp gIx (Zd 0) (eC (.int 0))) (Zb (Zd 7) (Zb (eDGetD 3 (Zd 7) (eC (.str (Str.ofString "p")))) (Zb (eDGetD 4 (Zd 7) (eC (.str (Str.ofString "p")))) Zj))))))))
   (sFrz 2 (Qs (Z0 Y5 (Zb (eOp Zu (eOp gIx (Zd 0) (eC (.int 0))) (eOp gIx (Zd 1) (eC (.int 0)))) (Zb (eOp gIx (Zd 0) (eC (.int 1))) (Zb (Zd 2) Zj)))))))))))))
theorem sc_l_joined:FnScope ["_law_one", "_law_other", "_law_sides", "_law_ones", "_law_others", "_law_kind", "_law_x", "_law_y", "_law_near", "_law_far"] ["_law_one", "_law_other"] (Zh s_l_joined):=⟨rfl,rfl,rfl,by decide +kernel,rfl,by decide +kernel,by decide +kernel⟩
theorem ok_l_joined {f:Addr}{fd:FuncData} (F:Fun K "_law_joined" "_law_joined" s_l_joined f fd) {f_l_sorted:Addr} {fd_l_sorted:FuncData} (G_l_sorted:FnOk P w K mg base CX0 1 f_l_sorted fd_l_sorted ["_law_width", "_law_height", "_law_sides"] (spN K Y5)) (b_l_sorted:Binds K fd_l_sorted ["_law_width", "_law_height", "_law_sides"] []) (k_l_sorted:PySem.W.keepIn K (.ref f_l_sorted)=true) (m_l_sorted:mg "_law_sorted" = some (.ref f_l_sorted)) (z_range:mg "range" = none):FnOk P w K mg base CX0 2 f fd ["_law_one", "_law_other"] (spN K F_l_joined) :=
 fn_d F sc_l_joined rfl rfl fun cdv A outer s H E hr =>
  (Zi (Qd ((pwd_or (Zx (od_ne hr.units) (Zl (Zc 0) Ze (fun _ _=>rfl)) (Zl (Zc 1) Ze (fun _ _=>rfl)) (Zt _)) (pwd_or1 (Zx od_gt (Zw Qi (Zl (Zc 0) Ze (fun _ _=>rfl)) (Zl (Zc 1) Ze (fun _ _=>rfl))) Ze (Zt _))))).pt (Zk (Zq Q3)) Z9)
   (Zi (psd_own 2 sc_l_joined.nd (pfd_lst Zf))
   (Zi (psd_dnewK 3 sc_l_joined.nd)
   (Zi (psd_dnewK 4 sc_l_joined.nd)
   (Zi (Yk PassesOwn.never rfl (pid_seq (Zl (Zc 0) Ze (fun _ _=>rfl))) (pgd_tup rfl (Qb (Zs 5 sc_l_joined.nd) (Qb (Zs 6 sc_l_joined.nd) (Qb (Zs 7 sc_l_joined.nd) (Qb (Zs 8 sc_l_joined.nd) (Qb (Zs 9 sc_l_joined.nd) pgsd_nil)))))) (Zk (Qd ((pwd_and (Zx (Yi hr.units) (Zc 5) Qf (Zt _)) (pwd_and1 (Zx (Yi hr.units) (Zc 6) (Zl (Zc 0) Ze (fun _ _=>rfl)) (Zt _))))).pt (Zk (psd_dput 3 hr.units (Zc 7) (Zc 8))) (Zk (Yq 2 (Qp (Za (Zc 5) (Za (Zc 6) (Za (Zc 7) (Za (Zc 8) (Za (Zc 9) Zf)))))))))))
   (Zi (Yk PassesOwn.never rfl (pid_seq (Zl (Zc 1) Ze (fun _ _=>rfl))) (pgd_tup rfl (Qb (Zs 5 sc_l_joined.nd) (Qb (Zs 6 sc_l_joined.nd) (Qb (Zs 7 sc_l_joined.nd) (Qb (Zs 8 sc_l_joined.nd) (Qb (Zs 9 sc_l_joined.nd) pgsd_nil)))))) (Zk (Qd ((pwd_and (Zx (Yi hr.units) (Zc 5) Qf (Zt _)) (pwd_and1 (Zx (Yi hr.units) (Zc 6) Ze (Zt _))))).pt (Zk (psd_dput 4 hr.units (Zc 7) (Zc 9))) (Zk (Yq 2 (Qp (Za (Zc 5) (Za (Zw Qi (Zc 6) (Zl (Zc 0) Ze (fun _ _=>rfl))) (Za (Zc 7) (Za (Zc 8) (Za (Zc 9) Zf)))))))))))
   (Zi (Yk PassesOwn.never rfl (Y3 (by rfl) z_range (Za (Zl (Zc 0) Ze (fun _ _=>rfl)) Zf)) (Zs 7 sc_l_joined.nd) (Zk (Yq 2 (Qp (Za Qf (Za (Zl (Zc 0) Ze (fun _ _=>rfl)) (Za (Zc 7) (Za (pd_dgetD 3 hr.units (Zc 7) Qf) (Za (pd_dgetD 4 hr.units (Zc 7) Qf) Zf)))))))))
   (psd_frz 2 (Zk (Zq (Z1 G_l_sorted (hr.mono (by decide)) m_l_sorted k_l_sorted b_l_sorted (Za (Zw Qi (Zl (Zc 0) Ze (fun _ _=>rfl)) (Zl (Zc 1) Ze (fun _ _=>rfl))) (Za (Zl (Zc 0) Ze (fun _ _=>rfl)) (Za (Zc 2) Zf))))))))))))))
noncomputable def F_l_cut:List D->M S:=fnD 2 7
  (Zr (sIf (tO (tN (tB (eIs "int" (Zd 1)))) (tO (tB (eIs "bool" (Zd 1))) (tO (tB (eOp gLt (Zd 1) (eC (.int 1)))) (tB (eOp gGe (Zd 1) (eOp gIx (Zd 0) (eC (.int 0)))))))) (Qs (eC .non)) Yl)
   (Zr (sOwn 2 (fLst Zj))
   (Zr (sOwn 3 (fLst Zj))
   (Zr (sFor (iSeq (eOp gIx (Zd 0) (eC (.int 2)))) (gTupD 5 (Qa (gNm 4) (Qa (gNm 5) (Qa (gNm 6) (Qa (gNm 7) (Qa (gNm 8) gsNil)))))) (sIf (tA (tB (eOp gEq (Zd 4) (eC (.str (Str.ofString "up"))))) (tB (eOp gEq (Zd 5) (Zd 1)))) (Zr (Yx 2 (Qn (Zb (Zd 4) (Zb (Zd 5) (Zb (Zd 6) (Zb (Zd 7) (Zb (eC (.str (Str.ofString "p"))) Zj)))))))
   (Yx 3 (Qn (Zb (Zd 4) (Zb (eC (.int 0)) (Zb (Zd 6) (Zb (eC (.str (Str.ofString "p"))) (Zb (Zd 8) Zj)))))))) (sIf (tB (eOp gLt (Zd 5) (Zd 1))) (Yx 2 (Qn (Zb (Zd 4) (Zb (Zd 5) (Zb (Zd 6) (Zb (Zd 7) (Zb (Zd 8) Zj))))))) (Yx 3 (Qn (Zb (Zd 4) (Zb (eOp gSub (Zd 5) (Zd 1)) (Zb (Zd 6) (Zb (Zd 7) (Zb (Zd 8) Zj))))))))))
   (sFrz 3 (sFrz 2 (Qs (Qn (Zb (Z0 Y5 (Zb (Zd 1) (Zb (eOp gIx (Zd 0) (eC (.int 1))) (Zb (Zd 2) Zj)))) (Zb (Z0 Y5 (Zb (eOp gSub (eOp gIx (Zd 0) (eC (.int 0))) (Zd 1)) (Zb (eOp gIx (Zd 0) (eC (.int 1))) (Zb (Zd 3) Zj)))) Zj))))))))))
theorem sc_l_cut:FnScope ["_law_hall_here", "_law_at", "_law_lefts", "_law_rights", "_law_kind", "_law_x", "_law_y", "_law_near", "_law_far"] ["_law_hall_here", "_law_at"] (Zh s_l_cut):=⟨rfl,rfl,rfl,by decide +kernel,rfl,by decide +kernel,by decide +kernel⟩
theorem ok_l_cut {f:Addr}{fd:FuncData} (F:Fun K "_law_cut" "_law_cut" s_l_cut f fd) {f_l_sorted:Addr} {fd_l_sorted:FuncData} (G_l_sorted:FnOk P w K mg base CX0 1 f_l_sorted fd_l_sorted ["_law_width", "_law_height", "_law_sides"] (spN K Y5)) (b_l_sorted:Binds K fd_l_sorted ["_law_width", "_law_height", "_law_sides"] []) (k_l_sorted:PySem.W.keepIn K (.ref f_l_sorted)=true) (m_l_sorted:mg "_law_sorted" = some (.ref f_l_sorted)) (z_isinstance:mg "isinstance" = none) (z_int:mg "int" = none) (z_bool:mg "bool" = none):FnOk P w K mg base CX0 2 f fd ["_law_hall_here", "_law_at"] (spN K F_l_cut) :=
 fn_d F sc_l_cut rfl rfl fun cdv A outer s H E hr =>
  (Zi (Qd ((pwd_or (Yp (Yh (Xk "int" (by rfl) z_isinstance z_int (by rfl) (by rfl) (Zc 1)))) (pwd_or (Yh (Xk "bool" (by rfl) z_isinstance z_bool (by rfl) (by rfl) (Zc 1))) (pwd_or (Zx od_lt (Zc 1) Ze (Zt _)) (pwd_or1 (Zx od_ge (Zc 1) (Zl (Zc 0) Ze (fun _ _=>rfl)) (Zt _))))))).pt (Zk (Zq Q3)) Z9)
   (Zi (psd_own 2 sc_l_cut.nd (pfd_lst Zf))
   (Zi (psd_own 3 sc_l_cut.nd (pfd_lst Zf))
   (Zi (Yk PassesOwn.never rfl (pid_seq (Zl (Zc 0) Ze (fun _ _=>rfl))) (pgd_tup rfl (Qb (Zs 4 sc_l_cut.nd) (Qb (Zs 5 sc_l_cut.nd) (Qb (Zs 6 sc_l_cut.nd) (Qb (Zs 7 sc_l_cut.nd) (Qb (Zs 8 sc_l_cut.nd) pgsd_nil)))))) (Zk (Qd ((pwd_and (Zx (Yi hr.units) (Zc 4) Qf (Zt _)) (pwd_and1 (Zx (Yi hr.units) (Zc 5) (Zc 1) (Zt _))))).pt (Zi (Yq 2 (Qp (Za (Zc 4) (Za (Zc 5) (Za (Zc 6) (Za (Zc 7) (Za Qf Zf)))))))
   (Zk (Yq 3 (Qp (Za (Zc 4) (Za Ze (Za (Zc 6) (Za Qf (Za (Zc 8) Zf))))))))) (Zk (Qd (Zx od_lt (Zc 5) (Zc 1) (Zt _)) (Zk (Yq 2 (Qp (Za (Zc 4) (Za (Zc 5) (Za (Zc 6) (Za (Zc 7) (Za (Zc 8) Zf)))))))) (Zk (Yq 3 (Qp (Za (Zc 4) (Za (Zw od_sub (Zc 5) (Zc 1)) (Za (Zc 6) (Za (Zc 7) (Za (Zc 8) Zf)))))))))))))
   (psd_frz 3 (psd_frz 2 (Zk (Zq (Qp (Za (Z1 G_l_sorted (hr.mono (by decide)) m_l_sorted k_l_sorted b_l_sorted (Za (Zc 1) (Za (Zl (Zc 0) Ze (fun _ _=>rfl)) (Za (Zc 2) Zf)))) (Za (Z1 G_l_sorted (hr.mono (by decide)) m_l_sorted k_l_sorted b_l_sorted (Za (Zw od_sub (Zl (Zc 0) Ze (fun _ _=>rfl)) (Zc 1)) (Za (Zl (Zc 0) Ze (fun _ _=>rfl)) (Za (Zc 3) Zf)))) Zf)))))))))))
noncomputable def Q8:List D->M S:=fnF "joined" 3 3
  (Zr (Qk 4 (eC .non))
   (Zr (Qk 5 (eC .non))
   (Zr (sTryL 0 "joined" Qv (Zb (Zd 1) (Zb (Zd 2) Zj)) 5 6 ["NoHall"] (sMvX 4 6))
   (Zr (sIf (tB (eOp gIsN (Zd 3) (eC .non))) (Qs (eCallE 4 Xa (Zb (eC .non) Zj))) Yl)
   (Qs (eAnd (eIsNS 4) (eAnd (eIs "tuple" (Zd 5)) (eOp gEq (Zd 5) (Zd 3)))))))))
theorem sc_l_asked_joined:FnScope ["_law_deed", "_law_one", "_law_other", "_law_due", "_law_caught", "_law_found", "e"] ["_law_deed", "_law_one", "_law_other", "_law_due"] (Zh Qt):=⟨rfl,rfl,rfl,by decide +kernel,rfl,by decide +kernel,by decide +kernel⟩
theorem ok_l_asked_joined {f:Addr}{fd:FuncData} (F:Fun K "_law_asked" "_law_asked" Qt f fd) {Yc:Addr} {fd_joined:FuncData} (G_joined:FnOk P w K mg base (CX1 P w) 6 Yc fd_joined ["one", "other"] (spX K Qv)) (b_joined:Binds K fd_joined ["one", "other"] []) (k_joined:PySem.W.keepIn K (.ref Yc)=true) (m_joined:mg "joined" = some (.ref Yc)) {f_l_refused:Addr} {fd_l_refused:FuncData} (G_l_refused:FnOk P w K mg base CX0 1 f_l_refused fd_l_refused ["_law_caught", "_law_side_here"] (spE K Xa)) (b_l_refused:Binds K fd_l_refused ["_law_caught", "_law_side_here"] []) (k_l_refused:PySem.W.keepIn K (.ref f_l_refused)=true) (m_l_refused:mg "_law_refused" = some (.ref f_l_refused)) (na_joined:PySem.W.nsIn K mainGlobals "joined" = some (some (.ref Yc))) {C_NoHall:Addr} (ya_NoHall:PySem.W.nsIn K mainGlobals "NoHall" = some (some (.ref C_NoHall))) (mc_NoHall:mg "NoHall" = some (.ref C_NoHall)) {C_SightError:Addr} (ya_SightError:PySem.W.nsIn K mainGlobals "SightError" = some (some (.ref C_SightError))) (mc_SightError:mg "SightError" = some (.ref C_SightError)) (hi_NoHall_SightError:hitsB K C_NoHall C_SightError=true) (z_isinstance:mg "isinstance" = none) (z_tuple:mg "tuple" = none):FnOk P w K mg base CX0 7 f fd ["_law_deed", "_law_one", "_law_other", "_law_due"] (spFn K "joined" Q8) :=
 fn_f F sc_l_asked_joined rfl rfl fun cdv A outer s H E hr =>
  (Zi (Z7 4 sc_l_asked_joined.nd Q3)
   (Zi (Z7 5 sc_l_asked_joined.nd Q3)
   (Zi (psd_tryL 0 G_joined (hr.mono (by decide)) na_joined k_joined b_joined (Za (Zc 1) (Za (Zc 2) Zf)) sc_l_asked_joined.nd mc_SightError (Xl ⟨_,ya_NoHall,hits_of hi_NoHall_SightError⟩) (fun e=>(Zk (psd_mvX 4 6 sc_l_asked_joined.nd))))
   (Zi (Qd (Zx od_isN (Zc 3) Q3 (Zt _)) (Zk (Zq (pd_callE 4 G_l_refused (hr.mono (by decide)) m_l_refused k_l_refused b_l_refused (Za Q3 Zf)))) Z9)
   (Zk (Zq (Xj (pd_isNS 4) (Xj (Xk "tuple" (by rfl) z_isinstance z_tuple (by rfl) (by rfl) (Zc 5)) (pd_one (Xh (Yi hr.units) (Zc 5) (Zc 3) (Zt _)))))))))))
noncomputable def Ye:List D->M S:=fnF "cut" 3 3
  (Zr (Qk 4 (eC .non))
   (Zr (Qk 5 (eC .non))
   (Zr (sTryL 0 "cut" F_cut (Zb (Zd 1) (Zb (Zd 2) Zj)) 5 6 ["NoHall"] (sMvX 4 6))
   (Zr (sIf (tB (eOp gIsN (Zd 3) (eC .non))) (Qs (eCallE 4 Xa (Zb (eC .non) Zj))) Yl)
   (Qs (eAnd (eIsNS 4) (eAnd (eIs "tuple" (Zd 5)) (eOp gEq (Zd 5) (Zd 3)))))))))
theorem sc_l_asked_cut:FnScope ["_law_deed", "_law_one", "_law_other", "_law_due", "_law_caught", "_law_found", "e"] ["_law_deed", "_law_one", "_law_other", "_law_due"] (Zh Yd):=⟨rfl,rfl,rfl,by decide +kernel,rfl,by decide +kernel,by decide +kernel⟩
theorem ok_l_asked_cut {f:Addr}{fd:FuncData} (F:Fun K "_law_asked" "_law_asked" Yd f fd) {f_cut:Addr} {fd_cut:FuncData} (G_cut:FnOk P w K mg base (CX1 P w) 6 f_cut fd_cut ["hall", "at"] (spX K F_cut)) (b_cut:Binds K fd_cut ["hall", "at"] []) (k_cut:PySem.W.keepIn K (.ref f_cut)=true) (m_cut:mg "cut" = some (.ref f_cut)) {f_l_refused:Addr} {fd_l_refused:FuncData} (G_l_refused:FnOk P w K mg base CX0 1 f_l_refused fd_l_refused ["_law_caught", "_law_side_here"] (spE K Xa)) (b_l_refused:Binds K fd_l_refused ["_law_caught", "_law_side_here"] []) (k_l_refused:PySem.W.keepIn K (.ref f_l_refused)=true) (m_l_refused:mg "_law_refused" = some (.ref f_l_refused)) (na_cut:PySem.W.nsIn K mainGlobals "cut" = some (some (.ref f_cut))) {C_NoHall:Addr} (ya_NoHall:PySem.W.nsIn K mainGlobals "NoHall" = some (some (.ref C_NoHall))) (mc_NoHall:mg "NoHall" = some (.ref C_NoHall)) {C_SightError:Addr} (ya_SightError:PySem.W.nsIn K mainGlobals "SightError" = some (some (.ref C_SightError))) (mc_SightError:mg "SightError" = some (.ref C_SightError)) (hi_NoHall_SightError:hitsB K C_NoHall C_SightError=true) (z_isinstance:mg "isinstance" = none) (z_tuple:mg "tuple" = none):FnOk P w K mg base CX0 7 f fd ["_law_deed", "_law_one", "_law_other", "_law_due"] (spFn K "cut" Ye) :=
 fn_f F sc_l_asked_cut rfl rfl fun cdv A outer s H E hr =>
  (Zi (Z7 4 sc_l_asked_cut.nd Q3)
   (Zi (Z7 5 sc_l_asked_cut.nd Q3)
   (Zi (psd_tryL 0 G_cut (hr.mono (by decide)) na_cut k_cut b_cut (Za (Zc 1) (Za (Zc 2) Zf)) sc_l_asked_cut.nd mc_SightError (Xl ⟨_,ya_NoHall,hits_of hi_NoHall_SightError⟩) (fun e=>(Zk (psd_mvX 4 6 sc_l_asked_cut.nd))))
   (Zi (Qd (Zx od_isN (Zc 3) Q3 (Zt _)) (Zk (Zq (pd_callE 4 G_l_refused (hr.mono (by decide)) m_l_refused k_l_refused b_l_refused (Za Q3 Zf)))) Z9)
   (Zk (Zq (Xj (pd_isNS 4) (Xj (Xk "tuple" (by rfl) z_isinstance z_tuple (by rfl) (by rfl) (Zc 5)) (pd_one (Xh (Yi hr.units) (Zc 5) (Zc 3) (Zt _)))))))))))
noncomputable def F_l_told:List D->M S:=fnD 2 1
  (Zr (Qk 2 (eNew (Xe (iSeq (eOp gIx (Zd 0) (eC (.int 2)))) 1 [1] (gNm 0) (tO (tB (eOp gIn (Zd 0) (eOp gIx (Zd 1) (eC (.int 2))))) (tB (eOp gNe (eSl (Zd 0) (Y7 (eC (.int 3))) Y6) (Qn (Zb (eC (.str (Str.ofString "p"))) (Zb (eC (.str (Str.ofString "p"))) Zj)))))) (Zd 0))))
   (Qs (eAnd (eOp gEq (eSl (Zd 0) Y6 (Y7 (eC (.int 2)))) (eSl (Zd 1) Y6 (Y7 (eC (.int 2))))) (eOp gEq (eCB bTuple (Zb (Zd 2) Zj)) (eOp gIx (Zd 1) (eC (.int 2)))))))
theorem sc_l_told:FnScope ["_law_hall_here", "_law_due", "_law_sides"] ["_law_hall_here", "_law_due"] (Zh Xf):=⟨rfl,rfl,rfl,by decide +kernel,rfl,by decide +kernel,by decide +kernel⟩
theorem ok_l_told {f:Addr}{fd:FuncData} (F:Fun K "_law_told" "_law_told" Xf f fd) (z_tuple:mg "tuple" = none):FnOk P w K mg base CX0 1 f fd ["_law_hall_here", "_law_due"] (spN K F_l_told) :=
 fn_d F sc_l_told rfl rfl fun cdv A outer s H E hr =>
  (Zi (psd_setCI 2 sc_l_told.nd (Nc:=["_law_side_here", "_law_due"]) rfl (closure_eq (fun y hy hf=>Yz (capF (sc:=Zh Xf) (by decide +kernel) y hy hf))) (capN (sc:=Zh Xf) rfl rfl (by decide +kernel) (capF (by decide +kernel)) (fun y hy hf=>Yz (capF (sc:=Zh Xf) (by decide +kernel) y hy hf)) rfl (capB_ok (N:=["_law_hall_here", "_law_due", "_law_sides"]) rfl (by decide +kernel))) rfl (by decide +kernel) (by decide +kernel) (keep_name (by decide)) (pid_seq (Zl (Zc 0) Ze (fun _ _=>rfl))) (fun s3 H3 C ex=>Zs 0 (show(["_law_side_here", "_law_due"]:List Str).Nodup by decide +kernel)) (fun s3 H3 C ex=>((pwd_or (Zx (od_in hr.units) (Zc 0) (Zl (Zc 1) Ze (fun _ _=>rfl)) (by with_unfolding_all rfl)) (pwd_or1 (Zx (od_ne hr.units) (pd_slice (Zc 0) (pod_some Ze) pod_none) (Qp (Za Qf (Za Qf Zf))) (Zt _))))).pt) (fun s3 H3 C ex=>(Zc 0)))
   (Zk (Zq (Xj (Xh (Yi hr.units) (pd_slice (Zc 0) pod_none (pod_some Ze)) (pd_slice (Zc 1) pod_none (pod_some Ze)) (Zt _)) (pd_one (Xh (Yi hr.units) (pd_callT cd_tuple (by rfl) z_tuple (by rfl) (Za (Zc 2) Zf)) (Zl (Zc 1) Ze (fun _ _=>rfl)) (Zt _)))))))
noncomputable def F_law:List D->M S:=fnD 1 11
  (Zr (Qk 1 (Z0 Yo (Zb (Z0 F_l_cell (Zb (Zd 0) (Zb (eC (.int 0)) Zj))) (Zb (eC (.int 5)) Zj))))
   (Zr (Qk 2 (Xb (Zb (eOp Zu (eC (.int 1)) (eOp Qz (eOp gIx (Zd 1) (eC (.int 0))) (eOp gIx (Xb (Zb (eC (.int 4)) (Zb (eC (.int 8)) Zj))) (eOp Qz (eOp gIx (Zd 1) (eC (.int 2))) (eC (.int 2)))))) (Zb (eOp Zu (eC (.int 1)) (eOp Qz (eOp gIx (Zd 1) (eC (.int 1))) (eOp gIx (Xb (Zb (eC (.int 4)) (Zb (eC (.int 8)) Zj))) (eOp Qz (eOp gIx (Zd 1) (eC (.int 2))) (eC (.int 2)))))) Zj))))
   (Zr (sOwn 3 (fLst (Zb (eOp Zu (eC (.int 1)) (eOp Qz (eOp gIx (Zd 1) (eC (.int 3))) (eC (.int 8)))) (Zb (eOp Zu (eC (.int 1)) (eOp Qz (eOp gIx (Zd 1) (eC (.int 4))) (eC (.int 8)))) Zj))))
   (Zr (sIf (tB (eOp gGt (eOp Qz (eOp gFdiv (eOp gIx (Zd 1) (eC (.int 2))) (eC (.int 2))) (eC (.int 4))) (eC (.int 0)))) (sLPut 3 (eC (.int 1)) (eOIx 3 (eC (.int 0)))) Yl)
   (sFrz 3 (Zr (Qk 4 (Z0 F_l_hall (Zb (Z0 F_l_cell (Zb (Zd 0) (Zb (eC (.int 1)) Zj))) (Zb (eOp gIx (Zd 2) (eC (.int 0))) (Zb (eOp gIx (Zd 3) (eC (.int 0))) Zj)))))
   (Zr (Qk 5 (Z0 F_l_hall (Zb (Z0 F_l_cell (Zb (Zd 0) (Zb (eC (.int 2)) Zj))) (Zb (eOp gIx (Zd 2) (eC (.int 1))) (Zb (eOp gIx (Zd 3) (eC (.int 1))) Zj)))))
   (Zr (Qk 6 (eOp gIx (Xb (Zb (eC (.int 1)) (Zb (eUn gNeg (eC (.int 1))) Zj))) (eOp Qz (eOp gFdiv (eOp gIx (Zd 1) (eC (.int 2))) (eC (.int 8))) (eC (.int 2)))))
   (Zr (Qk 7 (eNew (fComp (iSeq (Xb (Zb (Zd 4) (Zb (Zd 5) Zj)))) 1 [6] (gNm 0) (Qn (Zb (eOp gIx (Zd 0) (eC (.int 0))) (Zb (eOp gIx (Zd 0) (eC (.int 1))) (Zb (eStep (eOp gIx (Zd 0) (eC (.int 2))) (Zd 1)) Zj)))))))
   (Zr (sIf (tN (tB (eCallF Q8 (Zb (eOp gIx (Zd 7) (eC (.int 0))) (Zb (eOp gIx (Zd 7) (eC (.int 1))) (Zb (Z0 F_l_joined (Zb (Zd 4) (Zb (Zd 5) Zj))) Zj)))))) (Qs (eC (.bl false))) Yl)
   (Zr (Qk 8 (Xb (Zb (eOp Qz (Z0 F_l_cell (Zb (Zd 0) (Zb (eC (.int 3)) Zj))) (eOp gIx (Zd 2) (eC (.int 0)))) (Zb (eOp gIx (Zd 2) (eC (.int 0))) (Zb (eC (.int 0)) (Zb (eUn gNeg (eC (.int 1))) (Zb (eUn gNeg (eOp gPow (eC (.int 10)) (eC (.int 9)))) (Zb (eOp Zu (eC (.int 1)) (eOp gFdiv (eOp gIx (Zd 2) (eC (.int 0))) (eC (.int 2)))) (Zb (eOp gPow (eC (.int 10)) (eC (.int 12))) Zj)))))))))
   (Zr (sFor (iSeq (eOp Zu (Zd 8) (Xb (Zb (eC (.bl true)) (Zb (eC (.bl false)) (Zb (eC .non) (Zb (eC (.str (Str.ofString "1"))) (Zb (Qn (Zb (eC (.int 1)) (Zb (eC (.int 1)) Zj))) Zj)))))))) (gNm 9) (sIf (tN (tB (eCallF Ye (Zb (eOp gIx (Zd 7) (eC (.int 0))) (Zb (Zd 9) (Zb (Z0 F_l_cut (Zb (Zd 4) (Zb (Zd 9) Zj))) Zj)))))) (Qs (eC (.bl false))) Yl))
   (Zr (sIf (tB (eOp gIsN (Z0 F_l_joined (Zb (Zd 4) (Zb (Zd 5) Zj))) (eC .non))) (Qs (eC (.bl true))) Yl)
   (Zr (sAsg (eCallX F_cut (Zb (eCallX Qv (Zb (Zd 4) (Zb (Zd 5) Zj))) (Zb (eOp gIx (Zd 2) (eC (.int 0))) Zj))) (gTupD 2 (Qa (gNm 10) (Qa (gNm 11) gsNil))))
   (Qs (eAnd (Z0 F_l_told (Zb (Zd 10) (Zb (Zd 4) Zj))) (Z0 F_l_told (Zb (Zd 11) (Zb (Zd 5) Zj)))))))))))))))))))
theorem sc_law:FnScope ["_law_script", "_law_xs", "_law_wide", "_law_high", "_law_one", "_law_other", "_law_turn", "_law_handed", "_law_places", "_law_at", "_law_left", "_law_right"] ["_law_script"] (Zh s_law):=⟨rfl,rfl,rfl,by decide +kernel,rfl,by decide +kernel,by decide +kernel⟩
theorem ok_law {f:Addr}{fd:FuncData} (F:Fun K "law" "law" s_law f fd) {f_l_numbers:Addr} {fd_l_numbers:FuncData} (G_l_numbers:FnOk P w K mg base CX0 1 f_l_numbers fd_l_numbers ["_law_cell_here", "_law_many"] (spN K Yo)) (b_l_numbers:Binds K fd_l_numbers ["_law_cell_here", "_law_many"] []) (k_l_numbers:PySem.W.keepIn K (.ref f_l_numbers)=true) (m_l_numbers:mg "_law_numbers" = some (.ref f_l_numbers)) {f_l_cell:Addr} {fd_l_cell:FuncData} (G_l_cell:FnOk P w K mg base CX0 1 f_l_cell fd_l_cell ["_law_script", "_law_k"] (spN K F_l_cell)) (b_l_cell:Binds K fd_l_cell ["_law_script", "_law_k"] []) (k_l_cell:PySem.W.keepIn K (.ref f_l_cell)=true) (m_l_cell:mg "_law_cell" = some (.ref f_l_cell)) {f_l_hall:Addr} {fd_l_hall:FuncData} (G_l_hall:FnOk P w K mg base CX0 2 f_l_hall fd_l_hall ["_law_cell_here", "_law_width", "_law_height"] (spN K F_l_hall)) (b_l_hall:Binds K fd_l_hall ["_law_cell_here", "_law_width", "_law_height"] []) (k_l_hall:PySem.W.keepIn K (.ref f_l_hall)=true) (m_l_hall:mg "_law_hall" = some (.ref f_l_hall)) {f_l_asked_joined:Addr} {fd_l_asked_joined:FuncData} (G_l_asked_joined:FnOk P w K mg base CX0 7 f_l_asked_joined fd_l_asked_joined ["_law_deed", "_law_one", "_law_other", "_law_due"] (spFn K "joined" Q8)) (b_l_asked_joined:Binds K fd_l_asked_joined ["_law_deed", "_law_one", "_law_other", "_law_due"] []) (k_l_asked_joined:PySem.W.keepIn K (.ref f_l_asked_joined)=true) (m_l_asked_joined:mg "_law_asked" = some (.ref f_l_asked_joined)) {Yc:Addr} {fd_joined:FuncData} (G_joined:FnOk P w K mg base (CX1 P w) 6 Yc fd_joined ["one", "other"] (spX K Qv)) (b_joined:Binds K fd_joined ["one", "other"] []) (k_joined:PySem.W.keepIn K (.ref Yc)=true) (m_joined:mg "joined" = some (.ref Yc)) {f_l_joined:Addr} {fd_l_joined:FuncData} (G_l_joined:FnOk P w K mg base CX0 2 f_l_joined fd_l_joined ["_law_one", "_law_other"] (spN K F_l_joined)) (b_l_joined:Binds K fd_l_joined ["_law_one", "_law_other"] []) (k_l_joined:PySem.W.keepIn K (.ref f_l_joined)=true) (m_l_joined:mg "_law_joined" = some (.ref f_l_joined)) {f_l_asked_cut:Addr} {fd_l_asked_cut:FuncData} (G_l_asked_cut:FnOk P w K mg base CX0 7 f_l_asked_cut fd_l_asked_cut ["_law_deed", "_law_one", "_law_other", "_law_due"] (spFn K "cut" Ye)) (b_l_asked_cut:Binds K fd_l_asked_cut ["_law_deed", "_law_one", "_law_other", "_law_due"] []) (k_l_asked_cut:PySem.W.keepIn K (.ref f_l_asked_cut)=true) (m_l_asked_cut:mg "_law_asked" = some (.ref f_l_asked_cut)) {f_cut:Addr} {fd_cut:FuncData} (G_cut:FnOk P w K mg base (CX1 P w) 6 f_cut fd_cut ["hall", "at"] (spX K F_cut)) (b_cut:Binds K fd_cut ["hall", "at"] []) (k_cut:PySem.W.keepIn K (.ref f_cut)=true) (m_cut:mg "cut" = some (.ref f_cut)) {f_l_cut:Addr} {fd_l_cut:FuncData} (G_l_cut:FnOk P w K mg base CX0 2 f_l_cut fd_l_cut ["_law_hall_here", "_law_at"] (spN K F_l_cut)) (b_l_cut:Binds K fd_l_cut ["_law_hall_here", "_law_at"] []) (k_l_cut:PySem.W.keepIn K (.ref f_l_cut)=true) (m_l_cut:mg "_law_cut" = some (.ref f_l_cut)) {f_l_told:Addr} {fd_l_told:FuncData} (G_l_told:FnOk P w K mg base CX0 1 f_l_told fd_l_told ["_law_hall_here", "_law_due"] (spN K F_l_told)) (b_l_told:Binds K fd_l_told ["_law_hall_here", "_law_due"] []) (k_l_told:PySem.W.keepIn K (.ref f_l_told)=true) (m_l_told:mg "_law_told" = some (.ref f_l_told)) (na_joined:PySem.W.nsIn K mainGlobals "joined" = some (some (.ref Yc))) (na_cut:PySem.W.nsIn K mainGlobals "cut" = some (some (.ref f_cut))):FnOk P w K mg base (CX1 P w) 8 f fd ["_law_script"] (spX K F_law) :=
 fn_x F sc_law rfl rfl fun cdv A outer s H E hr =>
  (Zi (Z7 1 sc_law.nd (Z1 G_l_numbers (hr.mono (by decide)) m_l_numbers k_l_numbers b_l_numbers (Za (Z1 G_l_cell (hr.mono (by decide)) m_l_cell k_l_cell b_l_cell (Za (Zc 0) (Za Ze Zf))) (Za Ze Zf))))
   (Zi (Z7 2 sc_law.nd (Xi (Za (Zw Qi Ze (Zw Yg (Zl (Zc 1) Ze (fun _ _=>rfl)) (Zl (Xi (Za Ze (Za Ze Zf))) (Zw Yg (Zl (Zc 1) Ze (fun _ _=>rfl)) Ze) (fun _ _=>rfl)))) (Za (Zw Qi Ze (Zw Yg (Zl (Zc 1) Ze (fun _ _=>rfl)) (Zl (Xi (Za Ze (Za Ze Zf))) (Zw Yg (Zl (Zc 1) Ze (fun _ _=>rfl)) Ze) (fun _ _=>rfl)))) Zf))))
   (Zi (psd_own 3 sc_law.nd (pfd_lst (Za (Zw Qi Ze (Zw Yg (Zl (Zc 1) Ze (fun _ _=>rfl)) Ze)) (Za (Zw Qi Ze (Zw Yg (Zl (Zc 1) Ze (fun _ _=>rfl)) Ze)) Zf))))
   (Zi (Qd (Zx od_gt (Zw Yg (Zw od_fdiv (Zl (Zc 1) Ze (fun _ _=>rfl)) Ze) Ze) Ze (Zt _)) (Zk (psd_lput 3 Ze (pd_oix 3 Ze (fun _ _=>rfl)))) Z9)
   (psd_frz 3 (Zi (Z7 4 sc_law.nd (Z1 G_l_hall (hr.mono (by decide)) m_l_hall k_l_hall b_l_hall (Za (Z1 G_l_cell (hr.mono (by decide)) m_l_cell k_l_cell b_l_cell (Za (Zc 0) (Za Ze Zf))) (Za (Zl (Zc 2) Ze (fun _ _=>rfl)) (Za (Zl (Zc 3) Ze (fun _ _=>rfl)) Zf)))))
   (Zi (Z7 5 sc_law.nd (Z1 G_l_hall (hr.mono (by decide)) m_l_hall k_l_hall b_l_hall (Za (Z1 G_l_cell (hr.mono (by decide)) m_l_cell k_l_cell b_l_cell (Za (Zc 0) (Za Ze Zf))) (Za (Zl (Zc 2) Ze (fun _ _=>rfl)) (Za (Zl (Zc 3) Ze (fun _ _=>rfl)) Zf)))))
   (Zi (Z7 6 sc_law.nd (Zl (Xi (Za Ze (Za (pd_un ud_neg Ze) Zf))) (Zw Yg (Zw od_fdiv (Zl (Zc 1) Ze (fun _ _=>rfl)) Ze) Ze) (fun _ _=>rfl)))
   (Zi (psd_setC 7 sc_law.nd (Nc:=["_law_hall_here", "_law_turn"]) rfl (closure_eq (fun y hy hf=>Yz (capF (sc:=Zh s_law) (by decide +kernel) y hy hf))) (capN (sc:=Zh s_law) rfl rfl (by decide +kernel) (capF (by decide +kernel)) (fun y hy hf=>Yz (capF (sc:=Zh s_law) (by decide +kernel) y hy hf)) rfl (capB_ok (N:=["_law_script", "_law_xs", "_law_wide", "_law_high", "_law_one", "_law_other", "_law_turn", "_law_handed", "_law_places", "_law_at", "_law_left", "_law_right"]) rfl (by decide +kernel))) rfl (by decide +kernel) (by decide +kernel) (keep_name (by decide)) (pid_seq (Xi (Za (Zc 4) (Za (Zc 5) Zf)))) (fun s3 H3 C ex=>Zs 0 (show(["_law_hall_here", "_law_turn"]:List Str).Nodup by decide +kernel)) (fun s3 H3 C ex=>(Qp (Za (Zl (Zc 0) Ze (fun _ _=>rfl)) (Za (Zl (Zc 0) Ze (fun _ _=>rfl)) (Za (pd_step (Zl (Zc 0) Ze (fun _ _=>rfl)) (Zc 1)) Zf))))))
   (Zi (Qd (Yp (Yh (pd_callF G_l_asked_joined (hr.mono (by decide)) m_l_asked_joined k_l_asked_joined b_l_asked_joined na_joined m_joined (Za (Zl (Zc 7) Ze (fun _ _=>rfl)) (Za (Zl (Zc 7) Ze (fun _ _=>rfl)) (Za (Z1 G_l_joined (hr.mono (by decide)) m_l_joined k_l_joined b_l_joined (Za (Zc 4) (Za (Zc 5) Zf))) Zf)))))) (Zk (Zq pd_bl)) Z9)
   (Zi (Z7 8 sc_law.nd (Xi (Za (Zw Yg (Z1 G_l_cell (hr.mono (by decide)) m_l_cell k_l_cell b_l_cell (Za (Zc 0) (Za Ze Zf))) (Zl (Zc 2) Ze (fun _ _=>rfl))) (Za (Zl (Zc 2) Ze (fun _ _=>rfl)) (Za Ze (Za (pd_un ud_neg Ze) (Za (pd_un ud_neg (Zw od_pow Ze Ze)) (Za (Zw Qi Ze (Zw od_fdiv (Zl (Zc 2) Ze (fun _ _=>rfl)) Ze)) (Za (Zw od_pow Ze Ze) Zf)))))))))
   (Zi (Yk PassesOwn.leaving rfl (pid_seq (Zw Qi (Zc 8) (Xi (Za pd_bl (Za pd_bl (Za Q3 (Za Qf (Za (Qp (Za Ze (Za Ze Zf))) Zf)))))))) (Zs 9 sc_law.nd) (Zk (Qd (Yp (Yh (pd_callF G_l_asked_cut (hr.mono (by decide)) m_l_asked_cut k_l_asked_cut b_l_asked_cut na_cut m_cut (Za (Zl (Zc 7) Ze (fun _ _=>rfl)) (Za (Zc 9) (Za (Z1 G_l_cut (hr.mono (by decide)) m_l_cut k_l_cut b_l_cut (Za (Zc 4) (Za (Zc 9) Zf))) Zf)))))) (Zk (Zq pd_bl)) Z9)))
   (Zi (Qd (Zx od_isN (Z1 G_l_joined (hr.mono (by decide)) m_l_joined k_l_joined b_l_joined (Za (Zc 4) (Za (Zc 5) Zf))) Q3 (Zt _)) (Zk (Zq pd_bl)) Z9)
   (Zi (psd_asg (pd_callX G_cut (hr.mono (by decide)) m_cut k_cut b_cut out_fn (Za (pd_callX G_joined (hr.mono (by decide)) m_joined k_joined b_joined out_fn (Za (Zc 4) (Za (Zc 5) Zf))) (Za (Zl (Zc 2) Ze (fun _ _=>rfl)) Zf))) (pgd_tup rfl (Qb (Zs 10 sc_law.nd) (Qb (Zs 11 sc_law.nd) pgsd_nil))))
   (Zk (Zq (Xj (Z1 G_l_told (hr.mono (by decide)) m_l_told k_l_told b_l_told (Za (Zc 10) (Za (Zc 4) Zf))) (pd_one (Z1 G_l_told (hr.mono (by decide)) m_l_told k_l_told b_l_told (Za (Zc 11) (Za (Zc 5) Zf)))))))))))))))))))))
end
theorem all_mk {l:PySem.W.OpenLaw}{w:World}{K:PySem.W.Frag}{h:Heap}{mg:Str->Option Value}{fa f0 f1 f2 f3 f4 f5 f6 f7 f8 f9 f10 f11 f12 f13 f14 f15 f16 f17 f18 f19 f20 f21 f22:Addr}(X:K.In h)(G:h.Ns mainGlobals mg) (hfa:mg "law" = some (.ref fa))
  {od0 an0 od1 an1 od2 an2 od3 an3 od4 an4 od5 an5 od6 an6 od7 an7 od8 an8 od9 an9 od10 an10 od11 an11 od12 an12 od13 an13 od14 an14 od15 an15 od16 an16 od17 an17 od18 an18 od19 an19 od20 an20 od21 an21 od22 an22:Option Addr} {sl0 sl1 sl2 sl3 sl4 sl5 sl6 sl7 sl8 sl9 sl10 sl11 sl12 sl13 sl14 sl15 sl16 sl17 sl18 sl19 sl20 sl21 sl22:Array (Option Value)} {oc0 kV0 dc0 pm0 cd0 ct0 oc1 kV1 dc1 pm1 cd1 ct1 oc2 kV2 dc2 pm2 cd2 ct2 oc3 kV3 dc3 pm3 cd3 ct3 oc4 kV4 dc4 pm4 cd4 ct4 oc5 kV5 dc5 pm5 cd5 ct5 oc6 kV6 dc6 pm6 cd6 ct6 oc7 kV7 dc7 pm7 cd7 ct7 oc8 kV8 dc8 pm8 cd8 ct8 oc9 kV9 dc9 pm9 cd9 ct9 oc10 kV10 dc10 pm10 cd10 ct10 oc11 kV11 dc11 pm11 cd11 ct11 oc12 kV12 dc12 pm12 cd12 ct12 oc13 kV13 dc13 pm13 cd13 ct13 oc14 kV14 dc14 pm14 cd14 ct14 oc15 kV15 dc15 pm15 cd15 ct15 oc16 kV16 dc16 pm16 cd16 ct16 oc17 kV17 dc17 pm17 cd17 ct17 oc18 kV18 dc18 pm18 cd18 ct18 oc19 kV19 dc19 pm19 cd19 ct19 oc20 kV20 dc20 pm20 cd20 ct20 oc21 kV21 dc21 pm21 cd21 ct21 oc22 kV22 dc22 pm22 cd22 ct22:Value}
  (a0:PySem.W.nsIn K mainGlobals "is_whole" = some (some (.ref f0))) (l0:K.lookup f0=some ⟨oc0,od0,.func (PySem.W.fnOf "is_whole" "is_whole" (Z5 Xm) (Zz Xm) (Zh Xm) .none kV0 dc0 pm0 an0 cd0 ct0),sl0⟩) (c0:PySem.W.codeIn K cd0 "is_whole" = true) (k0:PySem.W.keepIn K (.ref f0)=true)
  (a1:PySem.W.nsIn K mainGlobals "is_from_to" = some (some (.ref f1))) (l1:K.lookup f1=some ⟨oc1,od1,.func (PySem.W.fnOf "is_from_to" "is_from_to" (Z5 Ys) (Zz Ys) (Zh Ys) .none kV1 dc1 pm1 an1 cd1 ct1),sl1⟩) (c1:PySem.W.codeIn K cd1 "is_from_to" = true) (k1:PySem.W.keepIn K (.ref f1)=true)
  (a2:PySem.W.nsIn K mainGlobals "is_edge" = some (some (.ref f2))) (l2:K.lookup f2=some ⟨oc2,od2,.func (PySem.W.fnOf "is_edge" "is_edge" (Z5 s_is_edge) (Zz s_is_edge) (Zh s_is_edge) .none kV2 dc2 pm2 an2 cd2 ct2),sl2⟩) (c2:PySem.W.codeIn K cd2 "is_edge" = true) (k2:PySem.W.keepIn K (.ref f2)=true)
  (a3:PySem.W.nsIn K mainGlobals "outward_face" = some (some (.ref f3))) (l3:K.lookup f3=some ⟨oc3,od3,.func (PySem.W.fnOf "outward_face" "outward_face" (Z5 Q7) (Zz Q7) (Zh Q7) .none kV3 dc3 pm3 an3 cd3 ct3),sl3⟩) (c3:PySem.W.codeIn K cd3 "outward_face" = true) (k3:PySem.W.keepIn K (.ref f3)=true)
  (a4:PySem.W.nsIn K mainGlobals "is_side" = some (some (.ref f4))) (l4:K.lookup f4=some ⟨oc4,od4,.func (PySem.W.fnOf "is_side" "is_side" (Z5 s_is_side) (Zz s_is_side) (Zh s_is_side) .none kV4 dc4 pm4 an4 cd4 ct4),sl4⟩) (c4:PySem.W.codeIn K cd4 "is_side" = true) (k4:PySem.W.keepIn K (.ref f4)=true)
  (a5:PySem.W.nsIn K mainGlobals "checked" = some (some (.ref f5))) (l5:K.lookup f5=some ⟨oc5,od5,.func (PySem.W.fnOf "checked" "checked" (Z5 s_checked) (Zz s_checked) (Zh s_checked) .none kV5 dc5 pm5 an5 cd5 ct5),sl5⟩) (c5:PySem.W.codeIn K cd5 "checked" = true) (k5:PySem.W.keepIn K (.ref f5)=true)
  (a6:PySem.W.nsIn K mainGlobals "faces" = some (some (.ref f6))) (l6:K.lookup f6=some ⟨oc6,od6,.func (PySem.W.fnOf "faces" "faces" (Z5 s_faces) (Zz s_faces) (Zh s_faces) .none kV6 dc6 pm6 an6 cd6 ct6),sl6⟩) (c6:PySem.W.codeIn K cd6 "faces" = true) (k6:PySem.W.keepIn K (.ref f6)=true)
  (a7:PySem.W.nsIn K mainGlobals "moved_side" = some (some (.ref f7))) (l7:K.lookup f7=some ⟨oc7,od7,.func (PySem.W.fnOf "moved_side" "moved_side" (Z5 Yt) (Zz Yt) (Zh Yt) .none kV7 dc7 pm7 an7 cd7 ct7),sl7⟩) (c7:PySem.W.codeIn K cd7 "moved_side" = true) (k7:PySem.W.keepIn K (.ref f7)=true)
  (a8:PySem.W.nsIn K mainGlobals "is_at_line" = some (some (.ref f8))) (l8:K.lookup f8=some ⟨oc8,od8,.func (PySem.W.fnOf "is_at_line" "is_at_line" (Z5 Yu) (Zz Yu) (Zh Yu) .none kV8 dc8 pm8 an8 cd8 ct8),sl8⟩) (c8:PySem.W.codeIn K cd8 "is_at_line" = true) (k8:PySem.W.keepIn K (.ref f8)=true)
  (a9:PySem.W.nsIn K mainGlobals "joined" = some (some (.ref f9))) (l9:K.lookup f9=some ⟨oc9,od9,.func (PySem.W.fnOf "joined" "joined" (Z5 Yb) (Zz Yb) (Zh Yb) .none kV9 dc9 pm9 an9 cd9 ct9),sl9⟩) (c9:PySem.W.codeIn K cd9 "joined" = true) (k9:PySem.W.keepIn K (.ref f9)=true)
  (a10:PySem.W.nsIn K mainGlobals "cut" = some (some (.ref f10))) (l10:K.lookup f10=some ⟨oc10,od10,.func (PySem.W.fnOf "cut" "cut" (Z5 s_cut) (Zz s_cut) (Zh s_cut) .none kV10 dc10 pm10 an10 cd10 ct10),sl10⟩) (c10:PySem.W.codeIn K cd10 "cut" = true) (k10:PySem.W.keepIn K (.ref f10)=true)
  (a11:PySem.W.nsIn K mainGlobals "_law_cell" = some (some (.ref f11))) (l11:K.lookup f11=some ⟨oc11,od11,.func (PySem.W.fnOf "_law_cell" "_law_cell" (Z5 s_l_cell) (Zz s_l_cell) (Zh s_l_cell) .none kV11 dc11 pm11 an11 cd11 ct11),sl11⟩) (c11:PySem.W.codeIn K cd11 "_law_cell" = true) (k11:PySem.W.keepIn K (.ref f11)=true)
  (a12:PySem.W.nsIn K mainGlobals "_law_numbers" = some (some (.ref f12))) (l12:K.lookup f12=some ⟨oc12,od12,.func (PySem.W.fnOf "_law_numbers" "_law_numbers" (Z5 Y8) (Zz Y8) (Zh Y8) .none kV12 dc12 pm12 an12 cd12 ct12),sl12⟩) (c12:PySem.W.codeIn K cd12 "_law_numbers" = true) (k12:PySem.W.keepIn K (.ref f12)=true)
  (a13:PySem.W.nsIn K mainGlobals "_law_side" = some (some (.ref f13))) (l13:K.lookup f13=some ⟨oc13,od13,.func (PySem.W.fnOf "_law_side" "_law_side" (Z5 s_l_side) (Zz s_l_side) (Zh s_l_side) .none kV13 dc13 pm13 an13 cd13 ct13),sl13⟩) (c13:PySem.W.codeIn K cd13 "_law_side" = true) (k13:PySem.W.keepIn K (.ref f13)=true)
  (a14:PySem.W.nsIn K mainGlobals "_law_hall" = some (some (.ref f14))) (l14:K.lookup f14=some ⟨oc14,od14,.func (PySem.W.fnOf "_law_hall" "_law_hall" (Z5 s_l_hall) (Zz s_l_hall) (Zh s_l_hall) .none kV14 dc14 pm14 an14 cd14 ct14),sl14⟩) (c14:PySem.W.codeIn K cd14 "_law_hall" = true) (k14:PySem.W.keepIn K (.ref f14)=true)
  (a15:PySem.W.nsIn K mainGlobals "_law_sorted" = some (some (.ref f15))) (l15:K.lookup f15=some ⟨oc15,od15,.func (PySem.W.fnOf "_law_sorted" "_law_sorted" (Z5 Xn) (Zz Xn) (Zh Xn) .none kV15 dc15 pm15 an15 cd15 ct15),sl15⟩) (c15:PySem.W.codeIn K cd15 "_law_sorted" = true) (k15:PySem.W.keepIn K (.ref f15)=true)
  (a16:PySem.W.nsIn K mainGlobals "_law_refused" = some (some (.ref f16))) (l16:K.lookup f16=some ⟨oc16,od16,.func (PySem.W.fnOf "_law_refused" "_law_refused" (Z5 Y9) (Zz Y9) (Zh Y9) .none kV16 dc16 pm16 an16 cd16 ct16),sl16⟩) (c16:PySem.W.codeIn K cd16 "_law_refused" = true) (k16:PySem.W.keepIn K (.ref f16)=true)
  (a17:PySem.W.nsIn K mainGlobals "_law_joined" = some (some (.ref f17))) (l17:K.lookup f17=some ⟨oc17,od17,.func (PySem.W.fnOf "_law_joined" "_law_joined" (Z5 s_l_joined) (Zz s_l_joined) (Zh s_l_joined) .none kV17 dc17 pm17 an17 cd17 ct17),sl17⟩) (c17:PySem.W.codeIn K cd17 "_law_joined" = true) (k17:PySem.W.keepIn K (.ref f17)=true)
  (a18:PySem.W.nsIn K mainGlobals "_law_cut" = some (some (.ref f18))) (l18:K.lookup f18=some ⟨oc18,od18,.func (PySem.W.fnOf "_law_cut" "_law_cut" (Z5 s_l_cut) (Zz s_l_cut) (Zh s_l_cut) .none kV18 dc18 pm18 an18 cd18 ct18),sl18⟩) (c18:PySem.W.codeIn K cd18 "_law_cut" = true) (k18:PySem.W.keepIn K (.ref f18)=true)
  (a19:PySem.W.nsIn K mainGlobals "_law_asked" = some (some (.ref f19))) (l19:K.lookup f19=some ⟨oc19,od19,.func (PySem.W.fnOf "_law_asked" "_law_asked" (Z5 Qt) (Zz Qt) (Zh Qt) .none kV19 dc19 pm19 an19 cd19 ct19),sl19⟩) (c19:PySem.W.codeIn K cd19 "_law_asked" = true) (k19:PySem.W.keepIn K (.ref f19)=true)
  (a20:PySem.W.nsIn K mainGlobals "_law_asked" = some (some (.ref f20))) (l20:K.lookup f20=some ⟨oc20,od20,.func (PySem.W.fnOf "_law_asked" "_law_asked" (Z5 Yd) (Zz Yd) (Zh Yd) .none kV20 dc20 pm20 an20 cd20 ct20),sl20⟩) (c20:PySem.W.codeIn K cd20 "_law_asked" = true) (k20:PySem.W.keepIn K (.ref f20)=true)
  (a21:PySem.W.nsIn K mainGlobals "_law_told" = some (some (.ref f21))) (l21:K.lookup f21=some ⟨oc21,od21,.func (PySem.W.fnOf "_law_told" "_law_told" (Z5 Xf) (Zz Xf) (Zh Xf) .none kV21 dc21 pm21 an21 cd21 ct21),sl21⟩) (c21:PySem.W.codeIn K cd21 "_law_told" = true) (k21:PySem.W.keepIn K (.ref f21)=true)
  (a22:PySem.W.nsIn K mainGlobals "law" = some (some (.ref f22))) (l22:K.lookup f22=some ⟨oc22,od22,.func (PySem.W.fnOf "law" "law" (Z5 s_law) (Zz s_law) (Zh s_law) .none kV22 dc22 pm22 an22 cd22 ct22),sl22⟩) (c22:PySem.W.codeIn K cd22 "law" = true) (k22:PySem.W.keepIn K (.ref f22)=true)
  {C_NoHall C_NoPerson C_NoName C_NoHiding C_NoText C_NoRow C_NoRing C_SightError:Addr}
  {fI_NoHall:Addr} {cdd_NoHall:ClassData} {odI_NoHall anI_NoHall:Option Addr} {slI_NoHall:Array (Option Value)} {ocI_NoHall kVI_NoHall dcI_NoHall pmI_NoHall cdI_NoHall ctI_NoHall:Value}
  (ya_NoHall:PySem.W.nsIn K mainGlobals "NoHall" = some (some (.ref C_NoHall)))
  (ya_NoPerson:PySem.W.nsIn K mainGlobals "NoPerson" = some (some (.ref C_NoPerson)))
  (ya_NoName:PySem.W.nsIn K mainGlobals "NoName" = some (some (.ref C_NoName)))
  (ya_NoHiding:PySem.W.nsIn K mainGlobals "NoHiding" = some (some (.ref C_NoHiding)))
  (ya_NoText:PySem.W.nsIn K mainGlobals "NoText" = some (some (.ref C_NoText)))
  (ya_NoRow:PySem.W.nsIn K mainGlobals "NoRow" = some (some (.ref C_NoRow)))
  (ya_NoRing:PySem.W.nsIn K mainGlobals "NoRing" = some (some (.ref C_NoRing)))
  (ya_SightError:PySem.W.nsIn K mainGlobals "SightError" = some (some (.ref C_SightError)))
  (yd_NoHall:PySem.W.clsIn K C_NoHall=some cdd_NoHall) (yi_NoHall:PySem.W.nsIn K cdd_NoHall.ns "__init__" = some (some (.ref fI_NoHall))) (yl_NoHall:K.lookup fI_NoHall=some ⟨ocI_NoHall,odI_NoHall,.func (PySem.W.fnOf "__init__" "NoHall.__init__" (Z5 sI_NoHall) (Zz sI_NoHall) (Zh sI_NoHall) .none kVI_NoHall dcI_NoHall pmI_NoHall anI_NoHall cdI_NoHall ctI_NoHall),slI_NoHall⟩) (yc_NoHall:PySem.W.codeIn K cdI_NoHall "NoHall.__init__" = true) (yk_NoHall:PySem.W.keepIn K (.ref fI_NoHall)=true) (yp_NoHall:PySem.W.keepIn K (.ref C_NoHall)=true) (yf_NoHall:PySem.W.isFn K (.ref fI_NoHall)=true) (yn_NoHall_side:PySem.W.findIn K (.ref C_NoHall) "side" = some none)
  (ye_NoHall:exInit K C_NoHall fI_NoHall=true) (yx_NoHall:xclsB K C_NoHall=true) (yt_NoHall:xkitB K C_NoHall=true)
  (ko_NoHall_NoPerson:PySem.W.kitOne K (.ref C_NoHall) (.ref C_NoPerson)=some ((anc "NoHall").contains "NoPerson"))
  (ko_NoHall_NoName:PySem.W.kitOne K (.ref C_NoHall) (.ref C_NoName)=some ((anc "NoHall").contains "NoName"))
  (ko_NoHall_NoHiding:PySem.W.kitOne K (.ref C_NoHall) (.ref C_NoHiding)=some ((anc "NoHall").contains "NoHiding"))
  (ko_NoHall_NoText:PySem.W.kitOne K (.ref C_NoHall) (.ref C_NoText)=some ((anc "NoHall").contains "NoText"))
  (ko_NoHall_NoRow:PySem.W.kitOne K (.ref C_NoHall) (.ref C_NoRow)=some ((anc "NoHall").contains "NoRow"))
  (ko_NoHall_NoRing:PySem.W.kitOne K (.ref C_NoHall) (.ref C_NoRing)=some ((anc "NoHall").contains "NoRing"))
  (ko_NoHall_NoHall:PySem.W.kitOne K (.ref C_NoHall) (.ref C_NoHall)=some ((anc "NoHall").contains "NoHall"))
  (ko_NoHall_ValueError:PySem.W.kitOne K (.ref C_NoHall) (.type "ValueError")=some ((anc "NoHall").contains "ValueError"))
  (hi_NoHall_SightError:hitsB K C_NoHall C_SightError=true)
  {tk_GREATEST_SIZE:Tok} (yg_GREATEST_SIZE:PySem.W.nsIn K mainGlobals "GREATEST_SIZE" = some (some (.int 8 tk_GREATEST_SIZE)))
  {at_FACES:Addr} (yg_FACES:PySem.W.nsIn K mainGlobals "FACES" = some (some (.ref at_FACES))) (yb_FACES:tupB K at_FACES [V.str (Str.ofString "m"),V.str (Str.ofString "p")]=true)
  (z_isinstance:PySem.W.nsIn K mainGlobals "isinstance" = some none)
  (z_int:PySem.W.nsIn K mainGlobals "int" = some none)
  (z_bool:PySem.W.nsIn K mainGlobals "bool" = some none)
  (z_enumerate:PySem.W.nsIn K mainGlobals "enumerate" = some none)
  (z_sorted:PySem.W.nsIn K mainGlobals "sorted" = some none)
  (z_tuple:PySem.W.nsIn K mainGlobals "tuple" = some none)
  (z_range:PySem.W.nsIn K mainGlobals "range" = some none)
  (z_len:PySem.W.nsIn K mainGlobals "len" = some none)
  (z_abs:PySem.W.nsIn K mainGlobals "abs" = some none)
  (z_ValueError:PySem.W.nsIn K mainGlobals "ValueError" = some none)
  : ∃fd:FuncData,(∀(s:Shared) (v:Value),BindsTo s fd ⟨[v],[]⟩ [("_law_script", v)])/\∀base:Heap,K.In base->base.Ns mainGlobals mg->FnOk l.prog w K mg base (CX1 l.prog w) 8 fa fd ["_law_script"] (spX K F_law):=by
 have e:=hfa.symm.trans (PySem.W.mg_of X G a22)
 cases e
 have F0:=Qr (st:=Xm) l0 c0 k0
 have b0:=F0.binds (ps:=["value"]) fun _ _ _ _ _ _ us hl=>match us,hl with | [_],_=>rfl
 have F1:=Qr (st:=Ys) l1 c1 k1
 have b1:=F1.binds (ps:=["value", "least", "greatest"]) fun _ _ _ _ _ _ us hl=>match us,hl with | [_,_,_],_=>rfl
 have F2:=Qr (st:=s_is_edge) l2 c2 k2
 have b2:=F2.binds (ps:=["width", "height", "kind", "x", "y"]) fun _ _ _ _ _ _ us hl=>match us,hl with | [_,_,_,_,_],_=>rfl
 have F3:=Qr (st:=Q7) l3 c3 k3
 have b3:=F3.binds (ps:=["width", "height", "kind", "x", "y"]) fun _ _ _ _ _ _ us hl=>match us,hl with | [_,_,_,_,_],_=>rfl
 have F4:=Qr (st:=s_is_side) l4 c4 k4
 have b4:=F4.binds (ps:=["width", "height", "side"]) fun _ _ _ _ _ _ us hl=>match us,hl with | [_,_,_],_=>rfl
 have F5:=Qr (st:=s_checked) l5 c5 k5
 have b5:=F5.binds (ps:=["hall"]) fun _ _ _ _ _ _ us hl=>match us,hl with | [_],_=>rfl
 have F6:=Qr (st:=s_faces) l6 c6 k6
 have b6:=F6.binds (ps:=["hall", "kind", "x", "y"]) fun _ _ _ _ _ _ us hl=>match us,hl with | [_,_,_,_],_=>rfl
 have F7:=Qr (st:=Yt) l7 c7 k7
 have b7:=F7.binds (ps:=["side", "by"]) fun _ _ _ _ _ _ us hl=>match us,hl with | [_,_],_=>rfl
 have F8:=Qr (st:=Yu) l8 c8 k8
 have b8:=F8.binds (ps:=["side", "x"]) fun _ _ _ _ _ _ us hl=>match us,hl with | [_,_],_=>rfl
 have F9:=Qr (st:=Yb) l9 c9 k9
 have b9:=F9.binds (ps:=["one", "other"]) fun _ _ _ _ _ _ us hl=>match us,hl with | [_,_],_=>rfl
 have F10:=Qr (st:=s_cut) l10 c10 k10
 have b10:=F10.binds (ps:=["hall", "at"]) fun _ _ _ _ _ _ us hl=>match us,hl with | [_,_],_=>rfl
 have F11:=Qr (st:=s_l_cell) l11 c11 k11
 have b11:=F11.binds (ps:=["_law_script", "_law_k"]) fun _ _ _ _ _ _ us hl=>match us,hl with | [_,_],_=>rfl
 have F12:=Qr (st:=Y8) l12 c12 k12
 have b12:=F12.binds (ps:=["_law_cell_here", "_law_many"]) fun _ _ _ _ _ _ us hl=>match us,hl with | [_,_],_=>rfl
 have F13:=Qr (st:=s_l_side) l13 c13 k13
 have b13:=F13.binds (ps:=["_law_kind", "_law_x", "_law_y", "_law_at", "_law_end", "_law_number"]) fun _ _ _ _ _ _ us hl=>match us,hl with | [_,_,_,_,_,_],_=>rfl
 have F14:=Qr (st:=s_l_hall) l14 c14 k14
 have b14:=F14.binds (ps:=["_law_cell_here", "_law_width", "_law_height"]) fun _ _ _ _ _ _ us hl=>match us,hl with | [_,_,_],_=>rfl
 have F15:=Qr (st:=Xn) l15 c15 k15
 have b15:=F15.binds (ps:=["_law_width", "_law_height", "_law_sides"]) fun _ _ _ _ _ _ us hl=>match us,hl with | [_,_,_],_=>rfl
 have F16:=Qr (st:=Y9) l16 c16 k16
 have b16:=F16.binds (ps:=["_law_caught", "_law_side_here"]) fun _ _ _ _ _ _ us hl=>match us,hl with | [_,_],_=>rfl
 have F17:=Qr (st:=s_l_joined) l17 c17 k17
 have b17:=F17.binds (ps:=["_law_one", "_law_other"]) fun _ _ _ _ _ _ us hl=>match us,hl with | [_,_],_=>rfl
 have F18:=Qr (st:=s_l_cut) l18 c18 k18
 have b18:=F18.binds (ps:=["_law_hall_here", "_law_at"]) fun _ _ _ _ _ _ us hl=>match us,hl with | [_,_],_=>rfl
 have F19:=Qr (st:=Qt) l19 c19 k19
 have b19:=F19.binds (ps:=["_law_deed", "_law_one", "_law_other", "_law_due"]) fun _ _ _ _ _ _ us hl=>match us,hl with | [_,_,_,_],_=>rfl
 have F20:=Qr (st:=Yd) l20 c20 k20
 have b20:=F20.binds (ps:=["_law_deed", "_law_one", "_law_other", "_law_due"]) fun _ _ _ _ _ _ us hl=>match us,hl with | [_,_,_,_],_=>rfl
 have F21:=Qr (st:=Xf) l21 c21 k21
 have b21:=F21.binds (ps:=["_law_hall_here", "_law_due"]) fun _ _ _ _ _ _ us hl=>match us,hl with | [_,_],_=>rfl
 have F22:=Qr (st:=s_law) l22 c22 k22
 refine⟨PySem.W.fnOf "law" "law" (Z5 s_law) (Zz s_law) (Zh s_law) .none kV22 dc22 pm22 an22 cd22 ct22,fun s v=>.of_eq rfl,fun base _ _=>?_⟩
 have FI_NoHall:=Qr (st:=sI_NoHall) yl_NoHall yc_NoHall yk_NoHall
 have bI_NoHall:=FI_NoHall.binds (ps:=["self", "side"]) fun _ _ _ _ _ _ us hl=>match us,hl with | [_,_],_=>rfl
 have gI_NoHall:=fn_init (P:=l.prog) (w:=w) (mg:=mg) (base:=base) FI_NoHall scI_NoHall rfl (xcls_of yx_NoHall) yn_NoHall_side (.inl rfl) (.inl rfl)
 have g0:=ok_is_whole (P:=l.prog) (w:=w) (mg:=mg) (base:=base) F0 (PySem.W.mg_none_of X G z_isinstance) (PySem.W.mg_none_of X G z_int) (PySem.W.mg_none_of X G z_bool)
 have g1:=ok_is_from_to (P:=l.prog) (w:=w) (mg:=mg) (base:=base) F1 g0 b0 k0 (PySem.W.mg_of X G a0)
 have g2:=ok_is_edge (P:=l.prog) (w:=w) (mg:=mg) (base:=base) F2 g1 b1 k1 (PySem.W.mg_of X G a1)
 have g3:=ok_outward_face (P:=l.prog) (w:=w) (mg:=mg) (base:=base) F3
 have g4:=ok_is_side (P:=l.prog) (w:=w) (mg:=mg) (base:=base) F4 g2 b2 k2 (PySem.W.mg_of X G a2) g3 b3 k3 (PySem.W.mg_of X G a3) (PySem.W.mg_of X G yg_FACES) yb_FACES
 have g5:=ok_checked (P:=l.prog) (w:=w) (mg:=mg) (base:=base) F5 g1 b1 k1 (PySem.W.mg_of X G a1) g4 b4 k4 (PySem.W.mg_of X G a4) (PySem.W.mg_of X G yg_GREATEST_SIZE) ya_NoHall (PySem.W.mg_of X G ya_NoHall) ye_NoHall yp_NoHall yf_NoHall gI_NoHall bI_NoHall (PySem.W.mg_none_of X G z_enumerate) (PySem.W.mg_none_of X G z_sorted) (PySem.W.mg_none_of X G z_tuple)
 have g6:=ok_faces (P:=l.prog) (w:=w) (mg:=mg) (base:=base) F6 g3 b3 k3 (PySem.W.mg_of X G a3)
 have g7:=ok_moved_side (P:=l.prog) (w:=w) (mg:=mg) (base:=base) F7
 have g8:=ok_is_at_line (P:=l.prog) (w:=w) (mg:=mg) (base:=base) F8
 have g9:=ok_joined (P:=l.prog) (w:=w) (mg:=mg) (base:=base) F9 g8 b8 k8 (PySem.W.mg_of X G a8) g7 b7 k7 (PySem.W.mg_of X G a7) g6 b6 k6 (PySem.W.mg_of X G a6) g5 b5 k5 (PySem.W.mg_of X G a5) ya_NoHall (PySem.W.mg_of X G ya_NoHall) ye_NoHall yp_NoHall yf_NoHall gI_NoHall bI_NoHall (PySem.W.mg_none_of X G z_range) (PySem.W.mg_none_of X G z_tuple)
 have g10:=ok_cut (P:=l.prog) (w:=w) (mg:=mg) (base:=base) F10 g1 b1 k1 (PySem.W.mg_of X G a1) g8 b8 k8 (PySem.W.mg_of X G a8) g7 b7 k7 (PySem.W.mg_of X G a7) g5 b5 k5 (PySem.W.mg_of X G a5) ya_NoHall (PySem.W.mg_of X G ya_NoHall) ye_NoHall yp_NoHall yf_NoHall gI_NoHall bI_NoHall (PySem.W.mg_none_of X G z_tuple)
 have g11:=ok_l_cell (P:=l.prog) (w:=w) (mg:=mg) (base:=base) F11 (PySem.W.mg_none_of X G z_len)
 have g12:=ok_l_numbers (P:=l.prog) (w:=w) (mg:=mg) (base:=base) F12 (PySem.W.mg_none_of X G z_abs) (PySem.W.mg_none_of X G z_range) (PySem.W.mg_none_of X G z_int)
 have g13:=ok_l_side (P:=l.prog) (w:=w) (mg:=mg) (base:=base) F13
 have g14:=ok_l_hall (P:=l.prog) (w:=w) (mg:=mg) (base:=base) F14 g12 b12 k12 (PySem.W.mg_of X G a12) g13 b13 k13 (PySem.W.mg_of X G a13) (PySem.W.mg_none_of X G z_range) (PySem.W.mg_none_of X G z_sorted) (PySem.W.mg_none_of X G z_tuple)
 have g15:=ok_l_sorted (P:=l.prog) (w:=w) (mg:=mg) (base:=base) F15 (PySem.W.mg_none_of X G z_sorted) (PySem.W.mg_none_of X G z_tuple)
 have g16:=ok_l_refused (P:=l.prog) (w:=w) (mg:=mg) (base:=base) F16 ya_NoHall (PySem.W.mg_of X G ya_NoHall) (know_of ya_NoHall yx_NoHall yt_NoHall) ya_NoPerson (PySem.W.mg_of X G ya_NoPerson) ko_NoHall_NoPerson ya_NoName (PySem.W.mg_of X G ya_NoName) ko_NoHall_NoName ya_NoHiding (PySem.W.mg_of X G ya_NoHiding) ko_NoHall_NoHiding ya_NoText (PySem.W.mg_of X G ya_NoText) ko_NoHall_NoText ya_NoRow (PySem.W.mg_of X G ya_NoRow) ko_NoHall_NoRow ya_NoRing (PySem.W.mg_of X G ya_NoRing) ko_NoHall_NoRing ko_NoHall_NoHall ko_NoHall_ValueError yn_NoHall_side (PySem.W.mg_none_of X G z_isinstance) (PySem.W.mg_none_of X G z_ValueError) (PySem.W.mg_none_of X G z_bool)
 have g17:=ok_l_joined (P:=l.prog) (w:=w) (mg:=mg) (base:=base) F17 g15 b15 k15 (PySem.W.mg_of X G a15) (PySem.W.mg_none_of X G z_range)
 have g18:=ok_l_cut (P:=l.prog) (w:=w) (mg:=mg) (base:=base) F18 g15 b15 k15 (PySem.W.mg_of X G a15) (PySem.W.mg_none_of X G z_isinstance) (PySem.W.mg_none_of X G z_int) (PySem.W.mg_none_of X G z_bool)
 have g19:=ok_l_asked_joined (P:=l.prog) (w:=w) (mg:=mg) (base:=base) F19 g9 b9 k9 (PySem.W.mg_of X G a9) g16 b16 k16 (PySem.W.mg_of X G a16) a9 ya_NoHall (PySem.W.mg_of X G ya_NoHall) ya_SightError (PySem.W.mg_of X G ya_SightError) hi_NoHall_SightError (PySem.W.mg_none_of X G z_isinstance) (PySem.W.mg_none_of X G z_tuple)
 have g20:=ok_l_asked_cut (P:=l.prog) (w:=w) (mg:=mg) (base:=base) F20 g10 b10 k10 (PySem.W.mg_of X G a10) g16 b16 k16 (PySem.W.mg_of X G a16) a10 ya_NoHall (PySem.W.mg_of X G ya_NoHall) ya_SightError (PySem.W.mg_of X G ya_SightError) hi_NoHall_SightError (PySem.W.mg_none_of X G z_isinstance) (PySem.W.mg_none_of X G z_tuple)
 have g21:=ok_l_told (P:=l.prog) (w:=w) (mg:=mg) (base:=base) F21 (PySem.W.mg_none_of X G z_tuple)
 exact ok_law (P:=l.prog) (w:=w) (mg:=mg) (base:=base) F22 g12 b12 k12 (PySem.W.mg_of X G a12) g11 b11 k11 (PySem.W.mg_of X G a11) g14 b14 k14 (PySem.W.mg_of X G a14) g19 b19 k19 (PySem.W.mg_of X G a19) g9 b9 k9 (PySem.W.mg_of X G a9) g17 b17 k17 (PySem.W.mg_of X G a17) g20 b20 k20 (PySem.W.mg_of X G a20) g10 b10 k10 (PySem.W.mg_of X G a10) g18 b18 k18 (PySem.W.mg_of X G a18) g21 b21 k21 (PySem.W.mg_of X G a21) a9 a10
theorem reps_ints {K:PySem.W.Frag}{H:Hp}:∀ns:List Int,Reps K H (ns.map D.int) (ns.map V.int)
 |[]=>Reps.nil
 |_::ns=>Reps.cons (rep_int.mpr rfl) (reps_ints ns)
theorem walk {l:PySem.W.OpenLaw}{q:Program}{loose:List Str}{XP:(Str->Option Value)->Heap->Prop}{YP:World->Heap->Prop}{d:DefRec}{K:Params->PySem.W.Frag}(hn:l.most=some 63)(hdf:d.params.defaults=[])(hT:∀ns:List Int,ns.length<=63->F_law [.lst (ns.map D.int)]=.ok (.im (.bl true)))(hY:∀(w:World) (h:Heap),YP w h->(K w.params).In h)
  (F:∀(w:World) (mg:Str->Option Value) (fa:Addr) (h:Heap),(K w.params).In h->h.Ns mainGlobals mg->mg d.name=some (.ref fa) ->
   ∃fd:FuncData,(∀(s:Shared) (u:Value),BindsTo s fd ⟨[u],[]⟩ [("_law_script", u)])/\∀base:Heap,(K w.params).In base->base.Ns mainGlobals mg->FnOk l.prog w (K w.params) mg base (CX1 l.prog w) 8 fa fd ["_law_script"] (spX (K w.params) F_law)) :
  PySem.W.WalkO q loose XP YP l.row.toRowW d [] (fun f vs=>PySem.call f vs) :=
 L2.walk_of (n:=63) (k:=8) (x := "_law_script") (CX:=fun w=>(CX1 l.prog w)) (sp:=fun w=>spX (K w.params) F_law) hn (by decide) hdf ⟨rfl,by decide,by decide⟩ hY F
  (fun w H a ns hl _ hS=>⟨H,[.lst (ns.map D.int)],Same.refl _,Reps.cons (rep_lst.mpr ⟨a,ns.map V.int,rfl,hS,reps_ints ns⟩) Reps.nil,by rw[hT ns hl];exact fun v Hf' H' _ r=>(rep_bl (K:=K w.params) (H:=Hf')).mp r⟩) fun _ _ _ _ _ ⟨_,_,_,_,_,_,_,_,_,_,_,_,_,_,_,q⟩=>q
end Law
set_option maxRecDepth 100000
set_option maxHeartbeats 4000000
set_option linter.all false
namespace Law
open PySem L2 DL
theorem range0 (n:Nat):rangeD 0 n=(List.range n).map fun(k:Nat)=>D.int (k:Int):=by
 unfold rangeD;simp
theorem iR1 {fs:DSt->M (List D)}{sd:DSt}{n:Nat}(h:fs sd=.ok [.int (n:Int)])(hn:n<=1000):Yj fs sd=.ok ((List.range n).map fun(k:Nat)=>D.int (k:Int)):=by
 simp[Yj,h,range0]
 lia
theorem few_of {ds:List D}(h:ds.length<=1000000):few ds=true:=decide_eq_true h
theorem fn1 (m:Nat)(f:DSt->M O)(a0:D):fnD 1 m f [a0]=fin' (f ([some (S.im a0)]++List.replicate m none)):=rfl
theorem fn2 (m:Nat)(f:DSt->M O)(a0 a1:D):fnD 2 m f [a0,a1]=fin' (f ([some (S.im a0),some (S.im a1)]++List.replicate m none)):=rfl
theorem fn3 (m:Nat)(f:DSt->M O)(a0 a1 a2:D):fnD 3 m f [a0,a1,a2]=fin' (f ([some (S.im a0),some (S.im a1),some (S.im a2)]++List.replicate m none)):=rfl
theorem fn4 (m:Nat)(f:DSt->M O)(a0 a1 a2 a3:D):fnD 4 m f [a0,a1,a2,a3]=fin' (f ([some (S.im a0),some (S.im a1),some (S.im a2),some (S.im a3)]++List.replicate m none)):=rfl
theorem fn5 (m:Nat)(f:DSt->M O)(a0 a1 a2 a3 a4:D):fnD 5 m f [a0,a1,a2,a3,a4]=fin' (f ([some (S.im a0),some (S.im a1),some (S.im a2),some (S.im a3),some (S.im a4)]++List.replicate m none)):=rfl
theorem sSeq_nx {f g:DSt->M O}{sd sd':DSt}(h:f sd=.ok (.nx sd')):Zr f g sd=g sd':=by unfold Zr;rw[h];rfl
theorem Q4 {f g:DSt->M O}{sd:DSt}{s:S}(h:f sd=.ok (.rt s)):Zr f g sd=.ok (.rt s):=by unfold Zr;rw[h];rfl
theorem Q5 {fi:DSt->M (List D)}{g:D->DSt->M DSt}{f:DSt->M O}{sd:DSt}{ds:List D}(h:fi sd=.ok ds):sFor fi g f sd=Q0 g f ds sd:=by unfold sFor;rw[h];rfl
theorem go {f g:DSt->M O}{sd sd':DSt}{r:M O}(h:f sd=.ok (.nx sd'))(k:g sd'=r):Zr f g sd=r:=(sSeq_nx h).trans k
theorem Ql {r:M O}{s:S}(h:r=.ok (.rt s)):fin' r=.ok s:=by rw[h];rfl
theorem own_nil (i:Nat)(sd:DSt):sOwn i (fLst Zj) sd=.ok (.nx (sd.set i (some (.ow [])))):=by
 unfold sOwn fLst Zj
 rw[M.bind_ok,few_of (Nat.zero_le _),if_pos rfl,M.bind_ok]
theorem p4000 {n:Nat}(h:n<=10 ^ 30):n<2 ^ 4000:=by
 have h1:(10:Nat) ^ 30<=16 ^ 30:=Nat.pow_le_pow_left (by decide) 30
 have h2:(16:Nat) ^ 30=2 ^ 120:=by rw[show(16:Nat)=2 ^ 4 from rfl,<-Nat.pow_mul]
 have h3:(2:Nat) ^ 120<2 ^ 4000:=Nat.pow_lt_pow_right (by decide) (by decide)
 lia
theorem sm30 {x:Int}(h:-1000000000000000000000000000000<=x)(h':x<=1000000000000000000000000000000):sm x=true:=sm_iff.mpr (p4000 (by have:(10:Nat) ^ 30=1000000000000000000000000000000:=rfl;lia))
theorem gT {i j:Int}(hi:sm i=true)(hj:sm j=true):Yw (.int i) (.int j)=.ok (.int (i*j)):=by
 show(if(sm i&&sm j)=true then _ else _)=_
 rw[hi,hj];rfl
theorem gFd {i j:Int}(hj:0<j)(hs:sm j=true):gFdiv (.int i) (.int j)=.ok (.int (i / j)):=by
 show(if(j != 0&&sm j)=true then M.ok (D.int (i.fdiv j)) else _)=_
 have:(j != 0)=true:=by simp;lia
 rw[this,hs,Int.fdiv_eq_ediv_of_nonneg i (by lia)];rfl
theorem gM {i j:Int}(hj:0<j):Qz (.int i) (.int j)=.ok (.int (i % j)):=by
 show(if(j != 0)=true then M.ok (D.int (i.fmod j)) else _)=_
 have:(j != 0)=true:=by simp;lia
 rw[this,Int.fmod_eq_emod_of_nonneg i (by lia)];rfl
theorem Qo {i:Nat}{f:DSt->M D}{sd:DSt}{d:D}(h:f sd=.ok d):Qk i f sd=.ok (.nx (sd.set i (some (.im d)))):=by unfold Qk;rw[h];rfl
theorem Zv {F:List D->M S}{fs:DSt->M (List D)}{sd:DSt}{ds:List D}{s:S}{d:D}(h1:fs sd=.ok ds)(h2:F ds=.ok s)(h3:s.toD=.ok d):Z0 F fs sd=.ok d:=by
 unfold Z0;rw[h1,M.bind_ok,h2];exact h3
theorem a1 {fa:DSt->M D}{sd:DSt}{d:D}(h:fa sd=.ok d):Zb fa Zj sd=.ok [d]:=by unfold Zb Zj;rw[h];rfl
theorem aC {fa:DSt->M D}{fr:DSt->M (List D)}{sd:DSt}{d:D}{ds:List D}(h:fa sd=.ok d)(h2:fr sd=.ok ds):Zb fa fr sd=.ok (d::ds):=by unfold Zb;rw[h,M.bind_ok,h2];rfl
theorem Z3 {f:DSt->M D}{sd:DSt}{d:D}(h:f sd=.ok d):Qs f sd=.ok (.rt (.im d)):=by unfold Qs;rw[h];rfl
theorem cb_ok {g:List D->M D}{fs:DSt->M (List D)}{sd:DSt}{ds:List D}{r:M D}(h1:fs sd=.ok ds)(h2:g ds=r):eCB g fs sd=r:=by unfold eCB;rw[h1];exact h2
theorem loop_ex {g:D->DSt->M DSt}{f:DSt->M O}{d:D}{r:List D}{sd sd1:DSt}{x:XV}(h1:g d sd=.ok sd1)(h2:f sd1=.ex x):Q0 g f (d::r) sd=.ex x:=by
 simp only[Q0,h1,h2,M.bind_ex]
theorem Yv {g:D->DSt->M DSt}{f:DSt->M O}{d:D}{r:List D}{sd sd1 sd2:DSt}(h1:g d sd=.ok sd1)(h2:f sd1=.ok (.nx sd2)):Q0 g f (d::r) sd=Q0 g f r sd2:=by
 simp only[Q0,h1,h2,M.bind_ok]
theorem sSeq_ex {f g:DSt->M O}{sd:DSt}{x:XV}(h:f sd=.ex x):Zr f g sd=.ex x:=by unfold Zr;rw[h];rfl
theorem fin_ex {r:M O}{x:XV}(h:r=.ex x):fin' r=.ex x:=by rw[h];rfl
theorem atI0 {α:Type}(x:α)(r:List α):atI (x::r) 0=some x:=by
 have:=atI_nat (xs:=x::r) (j:=0) (v:=x) rfl
 exact this
theorem atI1 {α:Type}(x y:α)(r:List α):atI (x::y::r) 1=some y:=by
 have:=atI_nat (xs:=x::y::r) (j:=1) (v:=y) rfl
 exact this
theorem smI {x:Int}(h:-1000000000<=x)(h':x<=1000000000):sm x=true:=sm30 (by lia) (by lia)
theorem own_ok {i:Nat}{f:DSt->M (List D)}{sd:DSt}{ds:List D}(h:f sd=.ok ds):sOwn i f sd=.ok (.nx (sd.set i (some (.ow ds)))):=by unfold sOwn;rw[h];rfl
theorem Qc {c:DSt->M Bool}{f:DSt->M O}{sd:DSt}(h:c sd=.ok false):sIf c f Yl sd=.ok (.nx sd):=by unfold sIf;rw[h];rfl
theorem Qh {f:DSt->M D}{sd:DSt}{b:Bool}(h:f sd=.ok (.bl b)):DL.tB f sd=.ok b:=by unfold DL.tB;rw[h];rfl
theorem Zg {g:D->D->M D}{fa fb:DSt->M D}{sd:DSt}{x y:D}{r:M D}(h1:fa sd=.ok x)(h2:fb sd=.ok y)(h3:g x y=r):eOp g fa fb sd=r:=by unfold eOp;rw[h1,M.bind_ok,h2,M.bind_ok,h3]
theorem and_ok {f g:DSt->M D}{sd:DSt}{r:M D}(h1:f sd=.ok (.bl true))(h2:g sd=r):eAnd f g sd=r:=by unfold eAnd;rw[h1,M.bind_ok];exact h2
theorem Z2 {c:DSt->M Bool}{f g:DSt->M O}{sd:DSt}{r:M O}(h:c sd=.ok true)(k:f sd=r):sIf c f g sd=r:=by unfold sIf;rw[h];exact k
theorem if_else {c:DSt->M Bool}{f g:DSt->M O}{sd:DSt}{r:M O}(h:c sd=.ok false)(k:g sd=r):sIf c f g sd=r:=by unfold sIf;rw[h];exact k
theorem tO_t {f g:DSt->M Bool}{sd:DSt}(h1:f sd=.ok true):DL.tO f g sd=.ok true:=by unfold DL.tO;rw[h1];rfl
theorem tO_f {f g:DSt->M Bool}{sd:DSt}{r:M Bool}(h1:f sd=.ok false)(h2:g sd=r):DL.tO f g sd=r:=by unfold DL.tO;rw[h1];exact h2
theorem tN_b {f:DSt->M Bool}{sd:DSt}{b:Bool}(h:f sd=.ok b):DL.tN f sd=.ok (!b):=by unfold DL.tN;rw[h];rfl
theorem tA_f {f g:DSt->M Bool}{sd:DSt}(h1:f sd=.ok false):DL.tA f g sd=.ok false:=by unfold DL.tA;rw[h1];rfl
theorem tA_t {f g:DSt->M Bool}{sd:DSt}{r:M Bool}(h1:f sd=.ok true)(h2:g sd=r):DL.tA f g sd=r:=by unfold DL.tA;rw[h1];exact h2
theorem and_f {f g:DSt->M D}{sd:DSt}(h1:f sd=.ok (.bl false)):eAnd f g sd=.ok (.bl false):=by unfold eAnd;rw[h1];rfl
theorem or_t {f g:DSt->M D}{sd:DSt}(h1:f sd=.ok (.bl true)):eOr f g sd=.ok (.bl true):=by unfold eOr;rw[h1];rfl
theorem or_f {f g:DSt->M D}{sd:DSt}{r:M D}(h1:f sd=.ok (.bl false))(h2:g sd=r):eOr f g sd=r:=by unfold eOr;rw[h1];exact h2
theorem eif_t {c:DSt->M Bool}{f g:DSt->M D}{sd:DSt}{r:M D}(h:c sd=.ok true)(k:f sd=r):eIf c f g sd=r:=by unfold eIf;rw[h];exact k
theorem eif_f {c:DSt->M Bool}{f g:DSt->M D}{sd:DSt}{r:M D}(h:c sd=.ok false)(k:g sd=r):eIf c f g sd=r:=by unfold eIf;rw[h];exact k
theorem callX_ok {F:List D->M S}{fs:DSt->M (List D)}{sd:DSt}{ds:List D}{s:S}{d:D}(h1:fs sd=.ok ds)(h2:F ds=.ok s)(h3:s.toD=.ok d):eCallX F fs sd=.ok d:=by unfold eCallX;rw[h1,M.bind_ok,h2];exact h3
theorem atI2 {α:Type}(x y z:α)(r:List α):atI (x::y::z::r) 2=some z:=atI_nat (xs:=x::y::z::r) (j:=2) (v:=z) rfl
theorem atI3 {α:Type}(x y z u:α)(r:List α):atI (x::y::z::u::r) 3=some u:=atI_nat (xs:=x::y::z::u::r) (j:=3) (v:=u) rfl
theorem atI4 {α:Type}(x y z u v:α)(r:List α):atI (x::y::z::u::v::r) 4=some v:=atI_nat (xs:=x::y::z::u::v::r) (j:=4) (v:=v) rfl
end Law
set_option maxRecDepth 100000
set_option maxHeartbeats 4000000
set_option linter.all false
namespace Law
open PySem L2 DL
def inR (d:D)(a b:Int):Bool:=match d with
 |.int i=>decide (a<=i)&&decide (i<=b)
 |_=>false
theorem f_whole (d:D):F_is_whole [d]=.ok (.im (.bl (match d with | .int _=>true|_=>false))):=by
 show fnD 1 0 _ [d]=_
 rw[fn1]
 cases d<;>simp[fin',Qs,eAnd,eNot,eIs,Zd,isD,asB]
theorem f_from (d:D)(a b:Int):Zp [d,.int a,.int b]=.ok (.im (.bl (inR d a b))):=by
 show fnD 3 0 _ [d,.int a,.int b]=_
 rw[fn3]
 refine Ql (Z3 ?_)
 have h:=f_whole d
 cases d with
 |int i =>
  refine and_ok (Zv (a1 rfl) h rfl) ?_
  unfold inR
  by_cases h1:a<=i
  ·by_cases h2:i<=b
   ·simp[eAnd,eOp,Zd,gLe,gI0,asB,h1,h2]
   ·simp[eAnd,eOp,Zd,gLe,gI0,asB,h1,h2]
  ·simp[eAnd,eOp,Zd,gLe,gI0,asB,h1]
 |_=>exact and_f (Zv (a1 rfl) h rfl)
structure Sd where
 k:D
 x:D
 y:D
 o:D
 p:D
def Sd.d (s:Sd):D:=.tup [s.k,s.x,s.y,s.o,s.p]
def Sd.flat (s:Sd):Prop:=s.k.dep<=60/\s.x.dep<=60/\s.y.dep<=60/\(∃v,flatA s.o=some v)/\(∃v,flatA s.p=some v)
def kUp:Str:=Str.ofString "up"
def kFl:Str:=Str.ofString "flat"
def cM:Str:=Str.ofString "m"
def cP:Str:=Str.ofString "p"
def isUp (d:D):Bool:=D.eq d (.str kUp)
def isFl (d:D):Bool:=D.eq d (.str kFl)
def edgeB (W H:Int)(s:Sd):Bool:=if isUp s.k then inR s.x 0 W&&inR s.y 0 (H - 1) else if isFl s.k then inR s.x 0 (W - 1)&&inR s.y 0 H else false
theorem eq_str {d:D}{t:Str}(h:D.eq d (.str t)=true):d=.str t:=by
 cases d with
 |str a=>simp only[D.eq,beq_iff_eq] at h;rw[h]
 |_=>simp[D.eq] at h
theorem gEq_b {x y:D}(h:x.dep<=60):gEq x y=.ok (.bl (D.eq x y)):=if_pos h
theorem f_edge {W H:Int}{s:Sd}(hs:s.k.dep<=60):F_is_edge [.int W,.int H,s.k,s.x,s.y]=.ok (.im (.bl (edgeB W H s))):=by
 show fnD 5 0 _ [D.int W,.int H,s.k,s.x,s.y]=_
 rw[fn5]
 have t1:∀(t:Str) (r:List (Option S)),DL.tB (eOp gEq (Zd 2) (eC (.str t))) (some (S.im (D.int W))::some (S.im (D.int H))::some (S.im s.k)::r)=.ok (D.eq s.k (.str t)):=fun t r=>Qh (Zg rfl rfl (gEq_b hs))
 unfold edgeB isUp isFl
 cases e1:D.eq s.k (.str kUp) with
 |true =>
  rw[if_pos rfl]
  refine Ql (Q4 (Z2 ((t1 kUp _).trans (by rw[e1])) (Z3 ?_)))
  have c1:Z0 Zp (Zb (Zd 3) (Zb (eC (.int 0)) (Zb (Zd 0) Zj))) ([some (S.im (D.int W)),some (S.im (.int H)),some (S.im s.k),some (S.im s.x),some (S.im s.y)]++List.replicate 0 none)=.ok (.bl (inR s.x 0 W)):=Zv (aC rfl (aC rfl (a1 rfl))) (f_from s.x 0 W) rfl
  have c2:Z0 Zp (Zb (Zd 4) (Zb (eC (.int 0)) (Zb (eOp DL.gSub (Zd 1) (eC (.int 1))) Zj))) ([some (S.im (D.int W)),some (S.im (.int H)),some (S.im s.k),some (S.im s.x),some (S.im s.y)]++List.replicate 0 none)=.ok (.bl (inR s.y 0 (H - 1))):=Zv (aC rfl (aC rfl (a1 rfl))) (f_from s.y 0 (H - 1)) rfl
  cases e3:inR s.x 0 W with
  |true=>exact and_ok (c1.trans (by rw[e3])) (c2.trans (by simp))
  |false=>exact(and_f (c1.trans (by rw[e3]))).trans (by simp)
 |false =>
  rw[if_neg (by decide)]
  refine Ql (go (Qc ((t1 kUp _).trans (by rw[e1]))) ?_)
  cases e2:D.eq s.k (.str kFl) with
  |true =>
   rw[if_pos rfl]
   refine Q4 (Z2 ((t1 kFl _).trans (by rw[e2])) (Z3 ?_))
   have c1:Z0 Zp (Zb (Zd 3) (Zb (eC (.int 0)) (Zb (eOp DL.gSub (Zd 0) (eC (.int 1))) Zj))) ([some (S.im (D.int W)),some (S.im (.int H)),some (S.im s.k),some (S.im s.x),some (S.im s.y)]++List.replicate 0 none)=.ok (.bl (inR s.x 0 (W - 1))):=Zv (aC rfl (aC rfl (a1 rfl))) (f_from s.x 0 (W - 1)) rfl
   have c2:Z0 Zp (Zb (Zd 4) (Zb (eC (.int 0)) (Zb (Zd 1) Zj))) ([some (S.im (D.int W)),some (S.im (.int H)),some (S.im s.k),some (S.im s.x),some (S.im s.y)]++List.replicate 0 none)=.ok (.bl (inR s.y 0 H)):=Zv (aC rfl (aC rfl (a1 rfl))) (f_from s.y 0 H) rfl
   cases e3:inR s.x 0 (W - 1) with
   |true=>exact and_ok (c1.trans (by rw[e3])) (c2.trans (by simp))
   |false=>exact(and_f (c1.trans (by rw[e3]))).trans (by simp)
  |false =>
   rw[if_neg (by decide)]
   exact go (Qc ((t1 kFl _).trans (by rw[e2]))) (Z3 rfl)
def outB (W H:Int)(s:Sd):Option Nat :=
 let l:=if isUp s.k then s.x else s.y
 let e:=if isUp s.k then W else H
 if D.eq l (.int 0) then some 3 else if D.eq l (.int e) then some 4 else none
theorem f_out {W H:Int}{s:Sd}(hs:s.k.dep<=60)(hx:s.x.dep<=60)(hy:s.y.dep<=60):Qu [.int W,.int H,s.k,s.x,s.y]=.ok (.im (match outB W H s with|some n=>.int (n:Int)|none=>.non)):=by
 show fnD 5 2 _ [D.int W,.int H,s.k,s.x,s.y]=_
 rw[fn5]
 have t1:∀(r:List (Option S)),DL.tB (eOp gEq (Zd 2) (eC (.str kUp))) (some (S.im (D.int W))::some (S.im (D.int H))::some (S.im s.k)::r)=.ok (isUp s.k):=fun r=>Qh (Zg rfl rfl (gEq_b hs))
 obtain⟨l,el⟩:∃l,l=if isUp s.k then s.x else s.y:=⟨_,rfl⟩
 obtain⟨e,ee⟩:∃e,e=if isUp s.k then W else H:=⟨_,rfl⟩
 have hl:l.dep<=60:=by rw[el];split<;>assumption
 have o1:outB W H s=if D.eq l (.int 0) then some 3 else if D.eq l (.int e) then some 4 else none:=by
  unfold outB
  rw[<-el,<-ee]
 have g5:eIf (DL.tB (eOp gEq (Zd 2) (eC (.str kUp)))) (Zd 3) (Zd 4) ([some (S.im (D.int W)),some (S.im (.int H)),some (S.im s.k),some (S.im s.x),some (S.im s.y)]++List.replicate 2 none)=.ok l:=by
  rw[el]
  cases z:isUp s.k with
  |true=>exact eif_t ((t1 _).trans (by rw[z])) rfl
  |false=>exact eif_f ((t1 _).trans (by rw[z])) rfl
 have g6:eIf (DL.tB (eOp gEq (Zd 2) (eC (.str kUp)))) (Zd 0) (Zd 1) [some (S.im (D.int W)),some (S.im (.int H)),some (S.im s.k),some (S.im s.x),some (S.im s.y),some (S.im l),none]=.ok (.int e):=by
  rw[ee]
  cases z:isUp s.k with
  |true=>exact eif_t ((t1 _).trans (by rw[z])) rfl
  |false=>exact eif_f ((t1 _).trans (by rw[z])) rfl
 refine Ql (go (Qo g5) (go (Qo g6) ?_))
 rw[o1]
 have t3:DL.tB (eOp gEq (Zd 5) (eC (.int 0))) [some (S.im (D.int W)),some (S.im (.int H)),some (S.im s.k),some (S.im s.x),some (S.im s.y),some (S.im l),some (S.im (.int e))]=.ok (D.eq l (.int 0)):=Qh (Zg rfl rfl (gEq_b hl))
 have t4:DL.tB (eOp gEq (Zd 5) (Zd 6)) [some (S.im (D.int W)),some (S.im (.int H)),some (S.im s.k),some (S.im s.x),some (S.im s.y),some (S.im l),some (S.im (.int e))]=.ok (D.eq l (.int e)):=Qh (Zg rfl rfl (gEq_b hl))
 cases e3:D.eq l (.int 0) with
 |true=>exact Q4 (Z2 (t3.trans (by rw[e3])) (Z3 rfl))
 |false =>
  refine go (Qc (t3.trans (by rw[e3]))) ?_
  rw[if_neg (by decide)]
  cases e4:D.eq l (.int e) with
  |true=>exact Q4 (Z2 (t4.trans (by rw[e4])) (Z3 rfl))
  |false=>exact go (Qc (t4.trans (by rw[e4]))) (Z3 rfl)
end Law
set_option maxRecDepth 100000
set_option maxHeartbeats 4000000
set_option linter.all false
namespace Law
open PySem L2 DL
def faceB (d:D):Bool:=match flatA d with
 |some v=>inV v [V.str cM,V.str cP]
 |none=>false
theorem face_is {d:D}(h:faceB d=true):d=.str cM\/d=.str cP:=by
 unfold faceB at h
 cases d with
 |str a =>
  simp only[flatA,inV,List.any_cons,List.any_nil,eqV,Bool.or_false,Bool.or_eq_true,beq_iff_eq] at h
  rcases h with h|h
  ·exact .inl (by rw[h])
  ·exact .inr (by rw[h])
 |non=>simp[flatA,inV,eqV] at h
 |bl _=>simp[flatA,inV,eqV] at h
 |int _=>simp[flatA,inV,eqV] at h
 |tup _=>simp[flatA] at h
 |lst _=>simp[flatA] at h
theorem flat_dep {d:D}{v:V}(h:flatA d=some v):d.dep<=60:=by
 cases d<;>simp[flatA] at h<;>simp[D.dep]
def Qw (W H:Int)(s:Sd):Bool:=edgeB W H s&&(faceB s.o&&faceB s.p&&(match outB W H s with
 |some 3=>D.eq s.o (.str cP)
 |some _=>D.eq s.p (.str cP)
 |none=>true))
theorem out_34 {W H:Int}{s:Sd}{n:Nat}(h:outB W H s=some n):n=3\/n=4:=by
 unfold outB at h
 dsimp only at h
 generalize D.eq (if isUp s.k=true then s.x else s.y) (.int 0)=b1 at h
 generalize D.eq (if isUp s.k=true then s.x else s.y) (.int (if isUp s.k=true then W else H))=b2 at h
 cases b1<;>cases b2<;>simp at h<;>lia
theorem f_side {W H:Int}{s:Sd}(hs:s.flat):F_is_side [.int W,.int H,s.d]=.ok (.im (.bl (Qw W H s))):=by
 obtain⟨h1,h2,h3,⟨vo,ho⟩,⟨vp,hp⟩⟩:=hs
 show fnD 3 1 _ [D.int W,.int H,s.d]=_
 rw[fn3]
 have x0:gIx s.d (.int 0)=.ok s.k:=by unfold Sd.d;simp[gIx,atI0]
 have x1:gIx s.d (.int 1)=.ok s.x:=by unfold Sd.d;simp[gIx,atI1]
 have x2:gIx s.d (.int 2)=.ok s.y:=by unfold Sd.d;simp[gIx,atI2]
 have x3:gIx s.d (.int 3)=.ok s.o:=by unfold Sd.d;simp[gIx,atI3]
 have x4:gIx s.d (.int 4)=.ok s.p:=by unfold Sd.d;simp[gIx,atI4]
 generalize s.d=sd at x0 x1 x2 x3 x4 ⊢
 have c1:∀r:List (Option S),DL.tB (Z0 F_is_edge (Zb (Zd 0) (Zb (Zd 1) (Zb (eOp gIx (Zd 2) (eC (.int 0))) (Zb (eOp gIx (Zd 2) (eC (.int 1))) (Zb (eOp gIx (Zd 2) (eC (.int 2))) Zj)))))) (some (S.im (D.int W))::some (S.im (D.int H))::some (S.im sd)::r)=.ok (edgeB W H s):=fun r =>
  Qh (Zv (aC rfl (aC rfl (aC (Zg rfl rfl x0) (aC (Zg rfl rfl x1) (a1 (Zg rfl rfl x2)))))) (f_edge h1) rfl)
 have c2:∀r:List (Option S),DL.tB (eUn (gInC [V.str cM,V.str cP] true) (eOp gIx (Zd 2) (eC (.int 3)))) (some (S.im (D.int W))::some (S.im (D.int H))::some (S.im sd)::r)=.ok (!faceB s.o):=fun r=>by
  refine Qh ?_
  unfold eUn
  rw[Zg rfl rfl x3,M.bind_ok]
  unfold gInC faceB
  rw[ho]
  rfl
 have c3:∀r:List (Option S),DL.tB (eUn (gInC [V.str cM,V.str cP] true) (eOp gIx (Zd 2) (eC (.int 4)))) (some (S.im (D.int W))::some (S.im (D.int H))::some (S.im sd)::r)=.ok (!faceB s.p):=fun r=>by
  refine Qh ?_
  unfold eUn
  rw[Zg rfl rfl x4,M.bind_ok]
  unfold gInC faceB
  rw[hp]
  rfl
 have c4:∀r:List (Option S),Z0 Qu (Zb (Zd 0) (Zb (Zd 1) (Zb (eOp gIx (Zd 2) (eC (.int 0))) (Zb (eOp gIx (Zd 2) (eC (.int 1))) (Zb (eOp gIx (Zd 2) (eC (.int 2))) Zj))))) (some (S.im (D.int W))::some (S.im (D.int H))::some (S.im sd)::r)=.ok (match outB W H s with|some n=>.int (n:Int)|none=>.non):=fun r =>
  Zv (aC rfl (aC rfl (aC (Zg rfl rfl x0) (aC (Zg rfl rfl x1) (a1 (Zg rfl rfl x2)))))) (f_out h1 h2 h3) rfl
 unfold Qw
 cases e1:edgeB W H s with
 |false =>
  rw[Bool.false_and]
  exact Ql (Q4 (Z2 ((tN_b (c1 _)).trans (by rw[e1];rfl)) (Z3 rfl)))
 |true =>
  rw[Bool.true_and]
  refine Ql (go (Qc ((tN_b (c1 _)).trans (by rw[e1];rfl))) ?_)
  cases e2:faceB s.o with
  |false=>exact Q4 (Z2 (tO_t ((c2 _).trans (by rw[e2];rfl))) (Z3 rfl))
  |true =>
   cases e3:faceB s.p with
   |false=>exact Q4 (Z2 (tO_f ((c2 _).trans (by rw[e2];rfl)) ((c3 _).trans (by rw[e3];rfl))) (Z3 rfl))
   |true =>
    refine go (Qc (tO_f ((c2 _).trans (by rw[e2];rfl)) ((c3 _).trans (by rw[e3];rfl)))) (go (Qo (c4 _)) (Z3 ?_))
    cases e4:outB W H s with
    |none=>exact or_t (Zg rfl rfl rfl)
    |some n =>
     rcases out_34 e4 with rfl|rfl
     ·exact or_f (Zg rfl rfl rfl) ((Zg (Zg rfl rfl x3) rfl (gEq_b (flat_dep ho))).trans (by simp;rfl))
     ·exact or_f (Zg rfl rfl rfl) ((Zg (Zg rfl rfl x4) rfl (gEq_b (flat_dep hp))).trans (by simp;rfl))
def Sd.key (s:Sd):Option (List Key):=keysD [s.k,s.x,s.y]
theorem inR_int {d:D}{a b:Int}(h:inR d a b=true):∃i,d=.int i/\a<=i/\i<=b:=by
 unfold inR at h
 split at h
 ·rename_i i
  rw[Bool.and_eq_true] at h
  exact⟨i,rfl,of_decide_eq_true h.1,of_decide_eq_true h.2⟩
 ·cases h
theorem edge_key {W H:Int}{s:Sd}(h:edgeB W H s=true):∃(k:Str) (i j:Int),s.k=.str k/\s.x=.int i/\s.y=.int j/\s.key=some [.inr k,.inl i,.inl j]:=by
 have key:∀(k:Str) (i j:Int),s.k=.str k->s.x=.int i->s.y=.int j->s.key=some [.inr k,.inl i,.inl j]:=fun k i j e1 e2 e3=>by
  unfold Sd.key
  rw[e1,e2,e3];rfl
 unfold edgeB at h
 split at h
 ·rename_i hu
  rw[Bool.and_eq_true] at h
  obtain⟨i,e2,_⟩:=inR_int h.1
  obtain⟨j,e3,_⟩:=inR_int h.2
  have e1:=eq_str hu
  exact⟨_,i,j,e1,e2,e3,key _ _ _ e1 e2 e3⟩
 ·split at h
  ·rename_i hu
   rw[Bool.and_eq_true] at h
   obtain⟨i,e2,_⟩:=inR_int h.1
   obtain⟨j,e3,_⟩:=inR_int h.2
   have e1:=eq_str hu
   exact⟨_,i,j,e1,e2,e3,key _ _ _ e1 e2 e3⟩
  ·cases h
instance memKey (k:List Key) (l:List (List Key)):Decidable (k∈l):=@List.instDecidableMemOfLawfulBEq _ instBEqOfDecidableEq inferInstance k l
def fb (W H:Int):List (List Key)->Nat->List Sd->Option Nat
 |_,_,[]=>none
 |seen,n,s::r=>if Qw W H s then(match s.key with
  |some ks=>if ks∈seen then some n else fb W H (seen++[ks]) (n+1) r
  |none=>some n) else some n
def kvs (seen:List (List Key)):List (List Key×D):=seen.map fun k=>(k,.bl true)
theorem kvs_has (seen:List (List Key))(k:List Key):hasD (kvs seen) k=decide (k∈seen):=by
 unfold hasD kvs
 rw[List.any_map]
 by_cases h:k∈seen
 ·rw[decide_eq_true h,List.any_eq_true]
  exact⟨k,h,by simp⟩
 ·rw[decide_eq_false h,List.any_eq_false]
  intro x hx
  simp only[Function.comp,decide_eq_true_eq]
  exact fun e=>h (e▸hx)
theorem kvs_put (seen:List (List Key))(k:List Key)(h:¬k∈seen):putD (kvs seen) k (.bl true)=kvs (seen++[k]):=by
 have h1:=kvs_has seen k
 unfold hasD at h1
 unfold putD
 rw[h1,decide_eq_false h,if_neg (by decide)]
 unfold kvs
 rw[List.map_append];rfl
noncomputable def ckBody:DSt->M O:=(Zr (sIf (DL.tO (DL.tN (DL.tB (Z0 F_is_side (Zb (Zd 1) (Zb (Zd 2) (Zb (Zd 5) Zj)))))) (DL.tB (eDIn 3 (eSl (Zd 5) Y6 (Y7 (eC (.int 3))))))) (sRaise "NoHall" "side" (Zb (Zd 4) Zj)) Yl)
   (DL.sDPut 3 (eSl (Zd 5) Y6 (Y7 (eC (.int 3)))) (eC (.bl true))))
def noH (k:Nat):XV:=⟨"NoHall", ["side"],[.int (k:Int)]⟩
def noHN:XV:=⟨"NoHall", ["side"],[.non]⟩
theorem cut3 (s:Sd):gSl s.d none (some 3)=.ok (.tup [s.k,s.x,s.y]):=by
 unfold Sd.d
 rfl
theorem ck_turn {W H:Int}{s:Sd}(hs:s.flat)(hall:Option S)(seen:List (List Key))(hl:seen.length<=1000)(n:Nat) :
  ckBody [hall,some (.im (.int W)),some (.im (.int H)),some (.od (kvs seen)),some (.im (.int (n:Int))),some (.im s.d)] =
   if Qw W H s then(match s.key with
    |some ks=>if ks∈seen then .ex (noH n) else .ok (.nx [hall,some (.im (.int W)),some (.im (.int H)),some (.od (kvs (seen++[ks]))),some (.im (.int (n:Int))),some (.im s.d)])
    |none=>.ex (noH n)) else .ex (noH n):=by
 have m:=f_side (W:=W) (H:=H) hs
 have c:=cut3 s
 have hk:Qw W H s=true->∃ks,s.key=some ks:=fun h=>by
  unfold Qw at h
  rw[Bool.and_eq_true] at h
  obtain⟨k,i,j,_,_,_,e⟩:=edge_key h.1
  exact⟨_,e⟩
 have hkd:keysD [s.k,s.x,s.y]=s.key:=rfl
 generalize s.d=sd at m c ⊢
 have t1:DL.tB (Z0 F_is_side (Zb (Zd 1) (Zb (Zd 2) (Zb (Zd 5) Zj)))) [hall,some (.im (.int W)),some (.im (.int H)),some (.od (kvs seen)),some (.im (.int (n:Int))),some (.im sd)]=.ok (Qw W H s):=Qh (Zv (aC rfl (aC rfl (a1 rfl))) m rfl)
 have sl:eSl (Zd 5) Y6 (Y7 (eC (.int 3))) [hall,some (.im (.int W)),some (.im (.int H)),some (.od (kvs seen)),some (.im (.int (n:Int))),some (.im sd)]=.ok (.tup [s.k,s.x,s.y]):=by
  simp only[eSl,Zd,Y6,Y7,eC,M.bind_ok,List.getElem?_cons_succ,List.getElem?_cons_zero,c]
 have ra:sRaise "NoHall" "side" (Zb (Zd 4) Zj) [hall,some (.im (.int W)),some (.im (.int H)),some (.od (kvs seen)),some (.im (.int (n:Int))),some (.im sd)]=.ex (noH n):=rfl
 unfold ckBody
 cases e1:Qw W H s with
 |false =>
  rw[if_neg (by decide)]
  exact sSeq_ex (Z2 (tO_t ((tN_b t1).trans (by rw[e1];rfl))) ra)
 |true =>
  rw[if_pos rfl]
  obtain⟨ks,ek⟩:=hk e1
  rw[ek] at hkd ⊢
  have t2:DL.tB (eDIn 3 (eSl (Zd 5) Y6 (Y7 (eC (.int 3))))) [hall,some (.im (.int W)),some (.im (.int H)),some (.od (kvs seen)),some (.im (.int (n:Int))),some (.im sd)]=.ok (decide (ks∈seen)):=by
   refine Qh ?_
   unfold eDIn
   rw[sl]
   show(if true=true then _ else _)=_
   rw[if_pos rfl,M.bind_ok]
   show(match (keysD [s.k,s.x,s.y]).map (hasD (kvs seen)) with|some b=>M.ok (D.bl b)|none=>.bad)=_
   rw[hkd]
   show M.ok (D.bl (hasD (kvs seen) ks))=_
   rw[kvs_has]
  dsimp only
  by_cases h:ks∈seen
  ·rw[if_pos h]
   exact sSeq_ex (Z2 (tO_f ((tN_b t1).trans (by rw[e1];rfl)) (t2.trans (by rw[decide_eq_true h]))) ra)
  ·rw[if_neg h]
   refine go (Qc (tO_f ((tN_b t1).trans (by rw[e1];rfl)) (t2.trans (by rw[decide_eq_false h])))) ?_
   unfold DL.sDPut
   show(if true=true then _ else _)=_
   rw[if_pos rfl]
   show(M.ok (D.bl true)).bind _=_
   rw[M.bind_ok,sl,M.bind_ok]
   show(match (match keysD [s.k,s.x,s.y] with|some ks=>if(kvs seen).length<=1000000 then some (S.od (putD (kvs seen) ks (.bl true))) else none|none=>none) with|some t=>M.ok (O.nx _)|none=>.bad)=_
   rw[hkd]
   dsimp only
   rw[if_pos (by unfold kvs;rw[List.length_map];lia),kvs_put seen ks h]
   rfl
theorem ck_loop {W H:Int}(hall:Option S):∀(rest:List Sd) (seen:List (List Key)) (n:Nat) (v4 v5:Option S),(∀s∈rest,s.flat)->seen.length+rest.length<=1000 ->
  ∃seen' w4 w5,Q0 (gTupD 2 (Qa (gNm 4) (Qa (gNm 5) gsNil))) ckBody (enumD n (rest.map Sd.d)) [hall,some (.im (.int W)),some (.im (.int H)),some (.od (kvs seen)),v4,v5] =
   match fb W H seen n rest with
   |some k=>.ex (noH k)
   |none=>.ok (.nx [hall,some (.im (.int W)),some (.im (.int H)),some (.od (kvs seen')),w4,w5])
 |[],seen,n,v4,v5,_,_=>⟨seen,v4,v5,rfl⟩
 |s::r,seen,n,v4,v5,hf,hl=>by
  rw[List.length_cons] at hl
  have e:=ck_turn (W:=W) (H:=H) (hf s (by simp)) hall seen (by lia) n
  have t:gTupD 2 (Qa (gNm 4) (Qa (gNm 5) gsNil)) (.tup [.int (n:Int),s.d]) [hall,some (.im (.int W)),some (.im (.int H)),some (.od (kvs seen)),v4,v5]=.ok [hall,some (.im (.int W)),some (.im (.int H)),some (.od (kvs seen)),some (.im (.int (n:Int))),some (.im s.d)]:=rfl
  unfold fb
  rw[List.map_cons]
  unfold enumD
  cases e1:Qw W H s with
  |false =>
   rw[e1,if_neg (by decide)] at e
   rw[if_neg (by decide)]
   exact⟨[],none,none,loop_ex t e⟩
  |true =>
   rw[e1,if_pos rfl] at e
   rw[if_pos rfl]
   cases ek:s.key with
   |none =>
    rw[ek] at e
    exact⟨[],none,none,loop_ex t e⟩
   |some ks =>
    rw[ek] at e
    dsimp only at e ⊢
    by_cases h:ks∈seen
    ·rw[if_pos h] at e ⊢
     exact⟨[],none,none,loop_ex t e⟩
    ·rw[if_neg h] at e ⊢
     obtain⟨seen',w4,w5,ih⟩:=ck_loop (W:=W) (H:=H) hall r (seen++[ks]) (n+1) (some (.im (.int (n:Int)))) (some (.im s.d)) (fun z hz=>hf z (by simp[hz])) (by rw[List.length_append,List.length_singleton];lia)
     exact⟨seen',w4,w5,(Yv t e).trans ih⟩
theorem fb_none {W H:Int}:∀{ss:List Sd} {seen:List (List Key)} {n:Nat},fb W H seen n ss=none->∀s∈ss,Qw W H s=true
 |[],_,_,_,s,hs=>by cases hs
 |a::r,seen,n,h,s,hs=>by
  unfold fb at h
  split at h
  ·rename_i ha
   rcases List.mem_cons.mp hs with rfl|hs
   ·exact ha
   ·split at h
    ·split at h
     ·cases h
     ·exact fb_none h s hs
    ·cases h
  ·cases h
theorem side_sig {W H:Int}{s:Sd}(h:Qw W H s=true):rowSig s.d=some [1,0,0,1,1]:=by
 unfold Qw at h
 rw[Bool.and_eq_true,Bool.and_eq_true,Bool.and_eq_true] at h
 obtain⟨h1,⟨h2,h3⟩,_⟩:=h
 obtain⟨k,i,j,e1,e2,e3,_⟩:=edge_key h1
 unfold Sd.d
 rw[e1,e2,e3]
 rcases face_is h2 with e4|e4<;>rcases face_is h3 with e5|e5<;>rw[e4,e5]<;>rfl
theorem sides_cond {W H:Int}{ss:List Sd}(h:∀s∈ss,Qw W H s=true):condD (ss.map Sd.d)=true:=by
 cases ss with
 |nil=>rfl
 |cons a r =>
  have ea:=side_sig (h a (by simp))
  show(match rowSig a.d with
   |some l=>((a::r).map Sd.d).all (fun e=>rowSig e==some l)&&(l.head?==some 0||l.head?==some 1)&&(l.all (fun k=>decide (k<2))||decide ((((a::r).map Sd.d).map Qg).Nodup))
   |none=>false)=true
  rw[ea]
  dsimp only
  have:((a::r).map Sd.d).all (fun e=>rowSig e==some [1,0,0,1,1])=true:=by
   rw[List.all_eq_true]
   intro e he
   obtain⟨s,hs,rfl⟩:=List.mem_map.mp he
   rw[side_sig (h s hs)]
   rfl
  rw[this]
  rfl
theorem Yf {w h:D}{ss:List Sd}(hf:∀s∈ss,s.flat)(hl:ss.length<=1000):Qx [.tup [w,h,.tup (ss.map Sd.d)]] =
  if inR w 1 8&&inR h 1 8 then(match w,h with
   |.int W,.int H=>(match fb W H [] 0 ss with
    |some k=>.ex (noH k)
    |none=>.ok (.im (.tup [.int W,.int H,.tup (Q6 (ss.map Sd.d))])))
   |_,_=>.ex noHN) else .ex noHN:=by
 have e0:gIx (.tup [w,h,.tup (ss.map Sd.d)]) (.int 0)=.ok w:=by simp[gIx,atI0]
 have e1:gIx (.tup [w,h,.tup (ss.map Sd.d)]) (.int 1)=.ok h:=by simp[gIx,atI1]
 have e2:gIx (.tup [w,h,.tup (ss.map Sd.d)]) (.int 2)=.ok (.tup (ss.map Sd.d)):=by simp[gIx,atI2]
 show fnD 1 5 _ [D.tup [w,h,.tup (ss.map Sd.d)]]=_
 rw[fn1]
 generalize D.tup [w,h,.tup (ss.map Sd.d)]=hall at e0 e1 e2 ⊢
 have t1:DL.tB (Z0 Zp (Zb (Zd 1) (Zb (eC (.int 1)) (Zb (eC (.int 8)) Zj)))) [some (S.im hall),some (.im w),some (.im h),none,none,none]=.ok (inR w 1 8):=Qh (Zv (aC rfl (aC rfl (a1 rfl))) (f_from w 1 8) rfl)
 have t2:DL.tB (Z0 Zp (Zb (Zd 2) (Zb (eC (.int 1)) (Zb (eC (.int 8)) Zj)))) [some (S.im hall),some (.im w),some (.im h),none,none,none]=.ok (inR h 1 8):=Qh (Zv (aC rfl (aC rfl (a1 rfl))) (f_from h 1 8) rfl)
 have ra:sRaise "NoHall" "side" (Zb (eC .non) Zj) [some (S.im hall),some (.im w),some (.im h),none,none,none]=.ex noHN:=rfl
 cases q1:inR w 1 8 with
 |false =>
  rw[Bool.false_and,if_neg (by decide)]
  exact fin_ex ((go (Qo (Zg rfl rfl e0)) (go (Qo (Zg rfl rfl e1)) (sSeq_ex (Z2 (tO_t ((tN_b t1).trans (by rw[q1];rfl))) ra)))))
 |true =>
  rw[Bool.true_and]
  cases q2:inR h 1 8 with
  |false =>
   rw[if_neg (by decide)]
   exact fin_ex ((go (Qo (Zg rfl rfl e0)) (go (Qo (Zg rfl rfl e1)) (sSeq_ex (Z2 (tO_f ((tN_b t1).trans (by rw[q1];rfl)) ((tN_b t2).trans (by rw[q2];rfl))) ra)))))
  |true =>
   rw[if_pos rfl]
   obtain⟨W,rfl,w1,w2⟩:=inR_int q1
   obtain⟨H,rfl,h1,h2⟩:=inR_int q2
   dsimp only
   obtain⟨seen,w4,w5,lp⟩:=ck_loop (W:=W) (H:=H) (some (S.im hall)) ss [] 0 none none hf (by simpa using hl)
   have it:iEnumT (Zb (eOp gIx (Zd 0) (eC (.int 2))) Zj) [some (S.im hall),some (.im (.int W)),some (.im (.int H)),some (.od (kvs [])),none,none]=.ok (enumD 0 (ss.map Sd.d)):=by
    unfold iEnumT
    rw[a1 (Zg rfl rfl e2)]
    rfl
   have pre:∀(f:DSt->M O) (r:M O),f [some (S.im hall),some (.im (.int W)),some (.im (.int H)),some (.od (kvs [])),none,none]=r->Zr (Qk 1 (eOp gIx (Zd 0) (eC (.int 0)))) (Zr (Qk 2 (eOp gIx (Zd 0) (eC (.int 1)))) (Zr (sIf (DL.tO (DL.tN (DL.tB (Z0 Zp (Zb (Zd 1) (Zb (eC (.int 1)) (Zb (eC (.int 8)) Zj)))))) (DL.tN (DL.tB (Z0 Zp (Zb (Zd 2) (Zb (eC (.int 1)) (Zb (eC (.int 8)) Zj))))))) (sRaise "NoHall" "side" (Zb (eC .non) Zj)) Yl) (Zr (sDNewT 3) f))) ([some (S.im hall)]++List.replicate 5 none)=r:=fun f r hr =>
    go (Qo (Zg rfl rfl e0)) (go (Qo (Zg rfl rfl e1)) (go (Qc (tO_f ((tN_b t1).trans (by rw[q1];rfl)) ((tN_b t2).trans (by rw[q2];rfl)))) (go rfl hr)))
   cases ef:fb W H [] 0 ss with
   |some k =>
    rw[ef] at lp
    exact fin_ex (pre _ _ (sSeq_ex ((Q5 it).trans lp)))
   |none =>
    rw[ef] at lp
    have hc:=sides_cond (fb_none ef)
    refine Ql (pre _ _ (go ((Q5 it).trans lp) (Z3 ?_)))
    unfold Qn
    rw[aC (d:=.int W) rfl (aC (d:=.int H) rfl (a1 (d:=.tup (Q6 (ss.map Sd.d))) (cb_ok (a1 (d:=.lst (Q6 (ss.map Sd.d))) (cb_ok (a1 (Zg rfl rfl e2)) ?_)) rfl)))]
    ·rfl
    ·show sortGD (ss.map Sd.d)=_
     unfold sortGD
     rw[few_of (by rw[List.length_map];lia),hc]
     rfl
end Law
set_option maxRecDepth 100000
set_option maxHeartbeats 4000000
set_option linter.all false
namespace Law
open PySem L2 DL
def nbBody:DSt->M O:=(Zr (Qk 3 (eOp Qz (eOp Zu (eOp Zu (eOp Yw (Zd 3) (eOp Zu (eOp Qz (Zd 3) (eC (.int 65521))) (eC (.int 40487)))) (eOp Yw (eC (.int 7)) (Zd 5))) (eC (.int 5))) (eC (.int 1999999973))))
   (Zr (Yx 2 (eOp gIx (Xb (Zb (Zd 3) (Zb (eOp Qz (Zd 4) (eC (.int 1000000))) Zj))) (eCB bInt (Zb (eOp gGt (Zd 4) (eC (.int 0))) Zj))))
   (Qk 4 (eOp gFdiv (Zd 4) (eC (.int 1000000))))))
def nbOk (d:Int):Prop:=0<=d/\d<1999999973
theorem nb_turn (s0 s1:Option S)(ds:List D)(hd:ds.length<=1000)(N R K:Int)(hN:0<=N)(hN':N<1999999973)(hK:0<=K)(hK':K<=1000) :
  ∃d N':Int,0<=N'/\N'<1999999973/\nbOk d/\nbBody [s0,s1,some (.ow ds),some (.im (.int N)),some (.im (.int R)),some (.im (.int K))] =
   .ok (.nx [s0,s1,some (.ow (ds++[.int d])),some (.im (.int N')),some (.im (.int (R / 1000000))),some (.im (.int K))]):=by
 have q1:0<=N % 65521:=Int.emod_nonneg _ (by decide)
 have q2:N % 65521<65521:=Int.emod_lt_of_pos _ (by decide)
 have g1:=gM (i:=N) (j:=65521) (by decide)
 have g2:=gT (i:=N) (j:=N % 65521+40487) (sm30 (by lia) (by lia)) (sm30 (by lia) (by lia))
 have g3:=gT (i:=7) (j:=K) (sm30 (by lia) (by lia)) (sm30 (by lia) (by lia))
 have g4:=gM (i:=N*(N % 65521+40487)+7*K+5) (j:=1999999973) (by decide)
 have e1:Qk 3 (eOp Qz (eOp Zu (eOp Zu (eOp Yw (Zd 3) (eOp Zu (eOp Qz (Zd 3) (eC (.int 65521))) (eC (.int 40487)))) (eOp Yw (eC (.int 7)) (Zd 5))) (eC (.int 5))) (eC (.int 1999999973)))
   [s0,s1,some (.ow ds),some (.im (.int N)),some (.im (.int R)),some (.im (.int K))] =
   .ok (.nx [s0,s1,some (.ow ds),some (.im (.int ((N*(N % 65521+40487)+7*K+5) % 1999999973))),some (.im (.int R)),some (.im (.int K))]):=by
  simp[Qk,eOp,Zd,eC,g1,Zu,g2,g3,g4]
 have b1:0<=(N*(N % 65521+40487)+7*K+5) % 1999999973:=Int.emod_nonneg _ (by decide)
 have b2:(N*(N % 65521+40487)+7*K+5) % 1999999973<1999999973:=Int.emod_lt_of_pos _ (by decide)
 generalize (N*(N % 65521+40487)+7*K+5) % 1999999973=N' at e1 b1 b2
 have f1:few ds=true:=few_of (by lia)
 have g5:=gM (i:=R) (j:=1000000) (by decide)
 have g8:=gFd (i:=R) (j:=1000000) (by decide) (sm30 (by decide) (by decide))
 have f2:few [D.int N',D.int (R % 1000000)]=true:=few_of (by simp)
 by_cases hR:R > 0
 ·have p1:0<=R % 1000000:=Int.emod_nonneg _ (by decide)
  have p2:R % 1000000<1000000:=Int.emod_lt_of_pos _ (by decide)
  refine⟨R % 1000000,N',b1,b2,⟨p1,by lia⟩,go e1 ?_⟩
  simp[Zr,Yx,eOp,Xb,Zb,Zj,Zd,eC,g5,f2,eCB,gGt,gI0,hR,bInt,gIx,atI1,f1,Qk,g8]
 ·refine⟨N',N',b1,b2,⟨b1,b2⟩,go e1 ?_⟩
  simp[Zr,Yx,eOp,Xb,Zb,Zj,Zd,eC,g5,f2,eCB,gGt,gI0,hR,bInt,gIx,atI0,f1,Qk,g8]
theorem nb_loop (s0 s1:Option S):∀(ks:List Nat) (ds:List Int) (N R:Int) (v:Option S),ds.length+ks.length<=1000->(∀k∈ks,k<=1000)->0<=N->N<1999999973->(∀d∈ds,nbOk d) ->
  ∃(es:List Int) (N' R':Int) (v':Option S),es.length=ds.length+ks.length/\(∀d∈es,nbOk d)/\Q0 (gNm 5) nbBody (ks.map fun(k:Nat)=>D.int (k:Int)) [s0,s1,some (.ow (ds.map D.int)),some (.im (.int N)),some (.im (.int R)),v] =
   .ok (.nx [s0,s1,some (.ow (es.map D.int)),some (.im (.int N')),some (.im (.int R')),v'])
 |[],ds,N,R,v,_,_,_,_,hd=>⟨ds,N,R,v,by simp,hd,by simp[Q0]⟩
 |k::ks,ds,N,R,v,h,hk,hN,hN',hd=>by
  rw[List.length_cons] at h
  have hk0:=hk k List.mem_cons_self
  obtain⟨d,N1,h1,h2,h3,e⟩:=nb_turn s0 s1 (ds.map D.int) (by simp;lia) N R (k:Int) hN hN' (by lia) (by lia)
  obtain⟨es,N',R',v',hl,ho,ih⟩:=nb_loop s0 s1 ks (ds++[d]) N1 (R / 1000000) (some (.im (.int (k:Int)))) (by simp;lia) (fun k hk'=>hk k (List.mem_cons_of_mem _ hk')) h1 h2 (fun d' hd'=>by
   rcases List.mem_append.mp hd' with q|q
   ·exact hd d' q
   ·have:d'=d:=by simpa using q
    rw[this];exact h3)
  refine⟨es,N',R',v',by rw[hl];simp;lia,ho,?_⟩
  rw[List.map_append,List.map_cons,List.map_nil] at ih
  rw[<-ih]
  simp[Q0,gNm,e]
theorem f_numbers (c:Int)(n:Nat)(hn:n<=1000):∃es:List Int,es.length=n/\(∀d∈es,nbOk d)/\Yo [.int c,.int (n:Int)]=.ok (.ow (es.map D.int)):=by
 have g1:=gM (i:=c) (j:=1999999973) (by decide)
 have q1:0<=c % 1999999973:=Int.emod_nonneg _ (by decide)
 have q2:c % 1999999973<1999999973:=Int.emod_lt_of_pos _ (by decide)
 have g2:=gT (i:=c % 1999999973+31) (j:=765432101) (sm30 (by lia) (by lia)) (sm30 (by lia) (by lia))
 have g3:=gM (i:=(c % 1999999973+31)*765432101) (j:=1999999973) (by decide)
 have g4:gPow (.int 10) (.int 18)=.ok (.int 1000000000000000000):=rfl
 have b1:0<=(c % 1999999973+31)*765432101 % 1999999973:=Int.emod_nonneg _ (by decide)
 have b2:(c % 1999999973+31)*765432101 % 1999999973<1999999973:=Int.emod_lt_of_pos _ (by decide)
 have e2:Qk 3 (eOp Qz (eOp Yw (eOp Zu (eOp Qz (Zd 0) (eC (.int 1999999973))) (eC (.int 31))) (eC (.int 765432101))) (eC (.int 1999999973))) [some (.im (.int c)),some (.im (.int (n:Int))),some (.ow []),none,none,none] =
   .ok (.nx [some (.im (.int c)),some (.im (.int (n:Int))),some (.ow []),some (.im (.int ((c % 1999999973+31)*765432101 % 1999999973))),none,none]):=by
  simp[Qk,eOp,Zd,eC,g1,Zu,g2,g3]
 generalize (c % 1999999973+31)*765432101 % 1999999973=N at e2 b1 b2
 obtain⟨R,e4⟩:∃R:Int,(sIf (DL.tO (DL.tB (eOp gLt (Zd 0) (eC (.int 0)))) (DL.tB (eOp gGe (Zd 0) (eOp gPow (eC (.int 10)) (eC (.int 18)))))) (Qk 4 (eCB bAbs (Zb (Zd 0) Zj))) Yl) [some (.im (.int c)),some (.im (.int (n:Int))),some (.ow []),some (.im (.int N)),some (.im (.int 0)),none] =
   .ok (.nx [some (.im (.int c)),some (.im (.int (n:Int))),some (.ow []),some (.im (.int N)),some (.im (.int R)),none]):=by
  by_cases h1:c<0
  ·exact⟨-c,by simp[sIf,DL.tO,DL.tB,eOp,Zd,eC,gLt,gI0,h1,asB,Qk,eCB,bAbs,Zb,Zj]⟩
  ·by_cases h2:1000000000000000000<=c
   ·exact⟨c,by simp[sIf,DL.tO,DL.tB,eOp,Zd,eC,gLt,gGe,gI0,h1,h2,g4,asB,Qk,eCB,bAbs,Zb,Zj]⟩
   ·exact⟨0,by simp[sIf,DL.tO,DL.tB,eOp,Zd,eC,gLt,gGe,gI0,h1,h2,g4,asB,Qk,eCB,bAbs,Zb,Zj,Yl]⟩
 obtain⟨es,N',R',v',hl,ho,e5⟩:=nb_loop (some (.im (.int c))) (some (.im (.int (n:Int)))) (List.range n) [] N R none (by simp;lia) (fun k hk=>by have:=List.mem_range.mp hk;lia) b1 b2 (fun d hd=>by simp at hd)
 refine⟨es,by simpa using hl,ho,?_⟩
 have r1:∀s0 s,Yj (Zb (Zd 1) Zj) (s0::some (.im (.int (n:Int)))::s)=.ok ((List.range n).map fun(k:Nat)=>D.int (k:Int)):=fun s0 s=>iR1 (by simp[Zb,Zj,Zd]) hn
 exact(fn2 _ _ _ _).trans (Ql (go (own_nil 2 _) (go e2 (go rfl (go e4 (go ((Q5 (r1 _ _)).trans e5) rfl))))))
end Law
set_option maxRecDepth 100000
set_option maxHeartbeats 4000000
set_option linter.all false
namespace Law
open PySem L2 DL
def Xg (W H:Nat)(ss:List Sd):D:=.tup [.int (W:Int),.int (H:Int),.tup (ss.map Sd.d)]
theorem hx0 (W H:Nat)(ss:List Sd):gIx (Xg W H ss) (.int 0)=.ok (.int (W:Int)):=by unfold Xg;simp[gIx,atI0]
theorem hx1 (W H:Nat)(ss:List Sd):gIx (Xg W H ss) (.int 1)=.ok (.int (H:Int)):=by unfold Xg;simp[gIx,atI1]
theorem hx2 (W H:Nat)(ss:List Sd):gIx (Xg W H ss) (.int 2)=.ok (.tup (ss.map Sd.d)):=by unfold Xg;simp[gIx,atI2]
def Sd.low (s:Sd):Prop:=s.k.dep<=50/\s.x.dep<=50/\s.y.dep<=50
def Sd.e3 (s:Sd):D:=.tup [s.k,s.x,s.y]
theorem loop_rt {g:D->DSt->M DSt}{f:DSt->M O}{d:D}{r:List D}{sd sd1:DSt}{s:S}(h1:g d sd=.ok sd1)(h2:f sd1=.ok (.rt s)):Q0 g f (d::r) sd=.ok (.rt s):=by
 simp only[Q0,h1,h2,M.bind_ok]
theorem ch_i {g g':D->D->M D}{fa fb fc:DSt->M D}{sd:DSt}{x y z:D}{a b:Bool}(h1:fa sd=.ok x)(h2:fb sd=.ok y)(h3:fc sd=.ok z)(h4:g x y=.ok (.bl a))(h5:g' y z=.ok (.bl b)):eChain g g' fa fb fc sd=.ok (.bl (a&&b)):=by
 unfold eChain
 rw[h1,M.bind_ok,h2,M.bind_ok,h4,M.bind_ok]
 cases a
 ·rfl
 ·show(fc sd).bind _=_
  rw[h3];exact h5
structure Good (W H:Nat) (ss:List Sd):Prop where
 ok:∀s∈ss,Qw W H s=true
 nd:(ss.map Sd.key).Nodup
theorem side_edge {W H:Int}{s:Sd}(h:Qw W H s=true):edgeB W H s=true:=by
 unfold Qw at h
 rw[Bool.and_eq_true] at h
 exact h.1
theorem side_low {W H:Int}{s:Sd}(h:Qw W H s=true):s.low:=by
 obtain⟨k,i,j,e1,e2,e3,_⟩:=edge_key (side_edge h)
 unfold Sd.low
 rw[e1,e2,e3]
 simp only[D.dep]
 exact⟨Nat.zero_le _,Nat.zero_le _,Nat.zero_le _⟩
theorem side_flat {W H:Int}{s:Sd}(h:Qw W H s=true):s.flat:=by
 have l:=side_low h
 unfold Qw at h
 rw[Bool.and_eq_true,Bool.and_eq_true,Bool.and_eq_true] at h
 obtain⟨_,⟨h2,h3⟩,_⟩:=h
 have f:∀d,faceB d=true->∃v,flatA d=some v:=fun d q=>by
  rcases face_is q with e|e<;>exact⟨_,by rw[e];rfl⟩
 exact⟨by have:=l.1;lia,by have:=l.2.1;lia,by have:=l.2.2;lia,f _ h2,f _ h3⟩
theorem fb_ok {W H:Int}:∀(ss:List Sd) (seen:List (List Key)) (n:Nat),(∀s∈ss,Qw W H s=true)->(ss.map Sd.key).Nodup->(∀s∈ss,∀ks,s.key=some ks->¬ks∈seen)->fb W H seen n ss=none
 |[],_,_,_,_,_=>rfl
 |s::r,seen,n,h,hn,hd=>by
  obtain⟨k,i,j,_,_,_,ek⟩:=edge_key (side_edge (h s (by simp)))
  rw[List.map_cons,List.nodup_cons] at hn
  unfold fb
  rw[if_pos (h s (by simp)),ek]
  dsimp only
  rw[if_neg (hd s (by simp) _ ek)]
  refine fb_ok r _ _ (fun t ht=>h t (by simp[ht])) hn.2 fun t ht ks e hk=>?_
  rcases List.mem_append.mp hk with q|q
  ·exact hd t (by simp[ht]) ks e q
  ·have:ks=[.inr k,.inl i,.inl j]:=by simpa using q
   exact hn.1 (List.mem_map.mpr ⟨t,ht,by rw[e,this,ek]⟩)
def unS:D->Sd
 |.tup [a,b,c,d,e]=>⟨a,b,c,d,e⟩
 |_=>⟨.non,.non,.non,.non,.non⟩
noncomputable def srt (ss:List Sd):List Sd:=(Q6 (ss.map Sd.d)).map unS
theorem srt_d (ss:List Sd):(srt ss).map Sd.d=Q6 (ss.map Sd.d):=by
 unfold srt
 rw[List.map_map]
 conv=>rhs;rw[<-List.map_id (Q6 (ss.map Sd.d))]
 refine List.map_congr_left fun d hd=>?_
 obtain⟨s,_,rfl⟩:=List.mem_map.mp ((Q9 (ss.map Sd.d)).mem_iff.mp hd)
 rfl
theorem srt_perm (ss:List Sd):(srt ss).Perm ss:=by
 have h:=(Q9 (ss.map Sd.d)).map unS
 rw[List.map_map] at h
 have e:ss.map (unS∘Sd.d)=ss:=by
  conv=>rhs;rw[<-List.map_id ss]
  exact List.map_congr_left fun s _=>rfl
 rw[e] at h
 exact h
theorem Good.perm {W H:Nat}{ss ts:List Sd}(h:Good W H ss)(p:ts.Perm ss):Good W H ts:=⟨fun s hs=>h.ok s (p.mem_iff.mp hs),(p.map Sd.key).nodup_iff.mpr h.nd⟩
theorem inR8 {W:Nat}(h:1<=W)(h':W<=8):inR (.int (W:Int)) 1 8=true:=by
 unfold inR
 rw[Bool.and_eq_true]
 exact⟨decide_eq_true (by lia),decide_eq_true (by lia)⟩
theorem f_chk {W H:Nat}(hW:1<=W)(hW':W<=8)(hH:1<=H)(hH':H<=8){ss:List Sd}(g:Good W H ss)(hl:ss.length<=1000):Qx [Xg W H ss]=.ok (.im (Xg W H (srt ss))):=by
 have c:=Yf (w:=.int (W:Int)) (h:=.int (H:Int)) (fun s hs=>side_flat (g.ok s hs)) hl
 rw[inR8 hW hW',inR8 hH hH'] at c
 dsimp only at c
 rw[fb_ok ss [] 0 g.ok g.nd (fun _ _ _ _ h=>by cases h)] at c
 unfold Xg
 rw[srt_d]
 exact c
theorem tup2 {fa fb:DSt->M D}{sd:DSt}{a b:D}(h1:fa sd=.ok a)(h2:fb sd=.ok b):Qn (Zb fa (Zb fb Zj)) sd=.ok (.tup [a,b]):=by
 unfold Qn;rw[aC h1 (a1 h2),M.bind_ok,few_of (by simp),if_pos rfl]
theorem tup3 {fa fb fc:DSt->M D}{sd:DSt}{a b c:D}(h1:fa sd=.ok a)(h2:fb sd=.ok b)(h3:fc sd=.ok c):Qn (Zb fa (Zb fb (Zb fc Zj))) sd=.ok (.tup [a,b,c]):=by
 unfold Qn;rw[aC h1 (aC h2 (a1 h3)),M.bind_ok,few_of (by simp),if_pos rfl]
theorem fn6 (m:Nat)(f:DSt->M O)(a0 a1 a2 a3 a4 a5:D):fnD 6 m f [a0,a1,a2,a3,a4,a5]=fin' (f ([some (S.im a0),some (S.im a1),some (S.im a2),some (S.im a3),some (S.im a4),some (S.im a5)]++List.replicate m none)):=rfl
structure Hall (W H:Nat) (ss:List Sd) (n:Nat):Prop where
 w1:1<=W
 w2:W<=8
 h1:1<=H
 h2:H<=8
 g:Good W H ss
 l:ss.length<=n
 n:n<=900
theorem Hall.low {W H n:Nat}{ss:List Sd}(h:Hall W H ss n):∀s∈ss,s.low:=fun s hs=>side_low (h.g.ok s hs)
theorem key_e3 {W H:Int}{s t:Sd}(hs:edgeB W H s=true)(ht:edgeB W H t=true)(h:s.key=t.key):s.e3=t.e3:=by
 obtain⟨k,i,j,e1,e2,e3,ek⟩:=edge_key hs
 obtain⟨k',i',j',f1,f2,f3,fk⟩:=edge_key ht
 rw[ek,fk] at h
 unfold Sd.e3
 rw[e1,e2,e3,f1,f2,f3]
 simp at h
 rw[h.1,h.2.1,h.2.2]
theorem deps_le {n:Nat}:∀{l:List D},(∀d∈l,d.dep<=n)->D.deps l<=n
 |[],_=>by simp[D.deps]
 |a::r,h=>by
  simp only[D.deps]
  have:=h a (by simp)
  have:=deps_le (l:=r) fun d hd=>h d (by simp[hd])
  lia
theorem eq_self {d:D}(h:d.dep<=60):gEq d d=.ok (.bl true):=by
 unfold gEq
 rw[if_pos h,D.eq_refl]
theorem gIx_l {ds:List D}{k:Nat}{d:D}(h:ds[k]?=some d):gIx (.lst ds) (.int (k:Int))=.ok d:=by
 show(match atI ds (k:Int) with|some d=>M.ok d|none=>.bad)=_
 rw[atI_nat h]
theorem mod_nat (p:Int){m:Nat}(h:1<=m):∃k:Nat,p % (m:Int)=(k:Int)/\k<m:=by
 have q1:0<=p % (m:Int):=Int.emod_nonneg _ (by lia)
 have q2:p % (m:Int)<m:=Int.emod_lt_of_pos _ (by lia)
 exact⟨(p % (m:Int)).toNat,by lia,by lia⟩
def cz (ns:List Int)(k:Nat):Int:=(ns[k]?).getD 0
theorem f_cell (ns:List Int)(hl:ns.length<=63)(k:Nat):F_l_cell [.lst (ns.map D.int),.int (k:Int)]=.ok (.im (.int (cz ns k))):=by
 refine(fn2 _ _ _ _).trans (Ql ?_)
 have t:DL.tB (eOp gLt (Zd 1) (eCB bLen (Zb (Zd 0) Zj))) ([some (S.im (.lst (ns.map D.int))),some (S.im (.int (k:Int)))]++List.replicate 0 none)=.ok (decide (k<ns.length)):=by
  refine Qh ((Zg rfl (cb_ok (a1 rfl) rfl) rfl).trans ?_)
  rw[List.length_map]
  show M.ok (D.bl (decide ((k:Int)<(ns.length:Int))))=_
  congr 2
  rw[decide_eq_decide]
  lia
 unfold cz
 by_cases h:k<ns.length
 ·rw[decide_eq_true h] at t
  refine Q4 (Z2 t (Z3 (Zg rfl rfl ?_)))
  rw[List.getElem?_eq_getElem h]
  exact gIx_l (by rw[List.getElem?_map,List.getElem?_eq_getElem h];rfl)
 ·rw[decide_eq_false h] at t
  rw[List.getElem?_eq_none (by lia)]
  exact go (Qc t) (Z3 rfl)
theorem tO_b {f g:DSt->M Bool}{sd:DSt}{a b:Bool}(h1:f sd=.ok a)(h2:g sd=.ok b):DL.tO f g sd=.ok (a||b):=by
 cases a
 ·exact tO_f h1 h2
 ·exact tO_t h1
theorem tA_b {f g:DSt->M Bool}{sd:DSt}{a b:Bool}(h1:f sd=.ok a)(h2:g sd=.ok b):DL.tA f g sd=.ok (a&&b):=by
 cases a
 ·exact tA_f h1
 ·exact tA_t h1 h2
theorem three (i:Int):i % 3=0\/i % 3=1\/i % 3=2:=by lia
theorem mpm (g:Int):∃c:Str,(c=cM\/c=cP)/\gIx (.str (Str.ofString "mpm")) (.int (g % 3))=.ok (.str c):=by
 rcases three g with e|e|e<;>rw[e]
 ·exact⟨cM,.inl rfl,rfl⟩
 ·exact⟨cP,.inr rfl,rfl⟩
 ·exact⟨cM,.inl rfl,rfl⟩
theorem mmp (g:Int):∃c:Str,(c=cM\/c=cP)/\gIx (.str (Str.ofString "mmp")) (.int (g % 3))=.ok (.str c):=by
 rcases three g with e|e|e<;>rw[e]
 ·exact⟨cM,.inl rfl,rfl⟩
 ·exact⟨cM,.inl rfl,rfl⟩
 ·exact⟨cP,.inr rfl,rfl⟩
theorem f_lside (k:Str)(x y t en g:Int):Y2 [.str k,.int x,.int y,.int t,.int en,.int g]=.ok (.im (.lst [])) \/
  ∃o p:Str,(o=cM\/o=cP)/\(p=cM\/p=cP)/\(t=0->o=cP)/\(t=en->p=cP)/\Y2 [.str k,.int x,.int y,.int t,.int en,.int g]=.ok (.im (.lst [Sd.d ⟨.str k,.int x,.int y,.str o,.str p⟩])):=by
 obtain⟨o,ho,eo⟩:=mpm g
 obtain⟨p,hp,ep⟩:=mmp (g / 3)
 have s3:sm 3=true:=smI (by decide) (by decide)
 have s9:sm 9=true:=smI (by decide) (by decide)
 have g1:∀r:List (Option S),eOp gIx (eC (.str (Str.ofString "mpm"))) (eOp Qz (Zd 5) (eC (.int 3))) (some (S.im (.str k))::some (S.im (.int x))::some (S.im (.int y))::some (S.im (.int t))::some (S.im (.int en))::some (S.im (.int g))::r)=.ok (.str o):=fun r=>Zg rfl (Zg rfl rfl (gM (by decide))) eo
 have g2:∀r:List (Option S),eOp gIx (eC (.str (Str.ofString "mmp"))) (eOp Qz (eOp gFdiv (Zd 5) (eC (.int 3))) (eC (.int 3))) (some (S.im (.str k))::some (S.im (.int x))::some (S.im (.int y))::some (S.im (.int t))::some (S.im (.int en))::some (S.im (.int g))::r)=.ok (.str p):=fun r=>Zg rfl (Zg (Zg rfl rfl (gFd (by decide) s3)) rfl (gM (by decide))) ep
 have c1:∀r:List (Option S),DL.tB (eChain gLt gLt (eC (.int 0)) (Zd 3) (Zd 4)) (some (S.im (.str k))::some (S.im (.int x))::some (S.im (.int y))::some (S.im (.int t))::some (S.im (.int en))::some (S.im (.int g))::r)=.ok (decide (0<t)&&decide (t<en)):=fun r=>Qh (ch_i rfl rfl rfl rfl rfl)
 have c2:∀r:List (Option S),DL.tB (eOp gGt (eOp Qz (eOp gFdiv (Zd 5) (eC (.int 9))) (eC (.int 3))) (eC (.int 0))) (some (S.im (.str k))::some (S.im (.int x))::some (S.im (.int y))::some (S.im (.int t))::some (S.im (.int en))::some (S.im (.int g))::r)=.ok (decide (0<g / 9 % 3)):=fun r=>Qh (Zg (Zg (Zg rfl rfl (gFd (by decide) s9)) rfl (gM (by decide))) rfl rfl)
 have c3:∀r:List (Option S),DL.tB (eOp gEq (eOp Qz (eOp gFdiv (Zd 5) (eC (.int 9))) (eC (.int 6))) (eC (.int 5))) (some (S.im (.str k))::some (S.im (.int x))::some (S.im (.int y))::some (S.im (.int t))::some (S.im (.int en))::some (S.im (.int g))::r)=.ok (D.eq (.int (g / 9 % 6)) (.int 5)):=fun r=>Qh (Zg (Zg (Zg rfl rfl (gFd (by decide) s9)) rfl (gM (by decide))) rfl (gEq_b (by simp[D.dep])))
 have c4:∀r:List (Option S),DL.tB (eOp gEq (Zd 3) (eC (.int 0))) (some (S.im (.str k))::some (S.im (.int x))::some (S.im (.int y))::some (S.im (.int t))::some (S.im (.int en))::some (S.im (.int g))::r)=.ok (t==0):=fun r=>Qh ((Zg rfl rfl (gEq_b (by simp[D.dep]))).trans (by simp only[D.eq]))
 have c5:∀r:List (Option S),DL.tB (eOp gEq (Zd 3) (Zd 4)) (some (S.im (.str k))::some (S.im (.int x))::some (S.im (.int y))::some (S.im (.int t))::some (S.im (.int en))::some (S.im (.int g))::r)=.ok (t==en):=fun r=>Qh ((Zg rfl rfl (gEq_b (by simp[D.dep]))).trans (by simp only[D.eq]))
 have tt:=fun r=>tO_b (tA_b (c1 r) (c2 r)) (tA_b (tN_b (c1 r)) (c3 r))
 generalize (((decide (0<t)&&decide (t<en))&&decide (0<g / 9 % 3))||((!(decide (0<t)&&decide (t<en)))&&D.eq (.int (g / 9 % 6)) (.int 5)))=b at tt
 cases b with
 |true =>
  left
  exact(fn6 _ _ _ _ _ _ _ _).trans (Ql (go (Qo (g1 _)) (go (Qo (g2 _)) (Q4 (Z2 (tt _) (Z3 rfl))))))
 |false =>
  right
  refine⟨if t==0 then cP else o,if t==en then cP else p,?_,?_,?_,?_,?_⟩
  ·split
   ·exact .inr rfl
   ·exact ho
  ·split
   ·exact .inr rfl
   ·exact hp
  ·intro h;rw[h];rfl
  ·intro h;rw[h,if_pos (by simp)]
  ·refine(fn6 _ _ _ _ _ _ _ _).trans (Ql (go (Qo (g1 _)) (go (Qo (g2 _)) (go (Qc (tt _)) ?_))))
   cases q1:(t==0) with
   |true =>
    refine go (Z2 ((c4 _).trans (by rw[q1])) rfl) ?_
    cases q2:(t==en) with
    |true=>exact go (Z2 ((c5 _).trans (by rw[q2])) rfl) (Z3 rfl)
    |false=>exact go (Qc ((c5 _).trans (by rw[q2]))) (Z3 rfl)
   |false =>
    refine go (Qc ((c4 _).trans (by rw[q1]))) ?_
    cases q2:(t==en) with
    |true=>exact go (Z2 ((c5 _).trans (by rw[q2])) rfl) (Z3 rfl)
    |false=>exact go (Qc ((c5 _).trans (by rw[q2]))) (Z3 rfl)
def cd (s:Sd):Int:=match s.x,s.y with
 |.int x,.int y=>(if isUp s.k then 0 else 100)+10*x+y
 |_,_=>0
structure St (W H:Nat) (c:Int) (ss:List Sd):Prop where
 g:Good W H ss
 b:∀s∈ss,cd s<c
theorem St.mono {W H:Nat}{c c':Int}{ss:List Sd}(h:St W H c ss)(hc:c<=c'):St W H c' ss:=⟨h.g,fun s hs=>by have:=h.b s hs;lia⟩
theorem cd_e3 {s t:Sd}(h:s.e3=t.e3):cd s=cd t:=by
 unfold Sd.e3 at h
 injection h with h
 injection h with h1 h
 injection h with h2 h
 injection h with h3 h
 unfold cd
 rw[h1,h2,h3]
theorem St.add {W H:Nat}{c:Int}{ss:List Sd}(h:St W H c ss){s:Sd}(hs:Qw W H s=true)(hc:c<=cd s):St W H (cd s+1) (ss++[s]):=by
 refine⟨⟨fun t ht=>?_,?_⟩,fun t ht=>?_⟩
 ·rcases List.mem_append.mp ht with q|q
  ·exact h.g.ok t q
  ·rw[show t=s by simpa using q];exact hs
 ·rw[List.map_append,List.map_cons,List.map_nil,List.nodup_append]
  refine⟨h.g.nd,by simp,fun a ha b hb e=>?_⟩
  have hb':b=s.key:=by simpa using hb
  obtain⟨t,ht,rfl⟩:=List.mem_map.mp ha
  have q:=cd_e3 (key_e3 (side_edge (h.g.ok t ht)) (side_edge hs) (e.trans hb'))
  have:=h.b t ht
  lia
 ·rcases List.mem_append.mp ht with q|q
  ·have:=h.b t q;lia
  ·rw[show t=s by simpa using q];lia
theorem up_up:isUp (.str kUp)=true:=by unfold isUp;simp only[D.eq];exact beq_self_eq_true _
theorem fl_up:isUp (.str kFl)=false:=by unfold isUp;simp only[D.eq];decide +kernel
theorem fl_fl:isFl (.str kFl)=true:=by unfold isFl;simp only[D.eq];exact beq_self_eq_true _
theorem face_mp {c:Str}(h:c=cM\/c=cP):faceB (.str c)=true:=by
 rcases h with rfl|rfl<;>decide +kernel
theorem side_up {W H:Nat}{x y:Int}{o p:Str}(hx:0<=x)(hx':x<=W)(hy:0<=y)(hy':y<H)(ho:o=cM\/o=cP)(hp:p=cM\/p=cP)(h0:x=0->o=cP)(h1:x=W->p=cP) :
  Qw W H ⟨.str kUp,.int x,.int y,.str o,.str p⟩=true:=by
 unfold Qw edgeB outB
 dsimp only
 rw[up_up,if_pos rfl,if_pos rfl,if_pos rfl,face_mp ho,face_mp hp]
 simp only[inR,D.eq,Bool.and_eq_true,decide_eq_true_eq]
 refine⟨⟨⟨hx,hx'⟩,hy,by lia⟩,⟨trivial,trivial⟩,?_⟩
 by_cases q:x=0
 ·subst q
  have:=h0 rfl
  subst this
  simp
 ·by_cases q1:x=W
  ·subst q1
   have:=h1 rfl
   subst this
   have q':¬W=0:=by lia
   simp[q']
  ·simp[q,q1]
theorem side_fl {W H:Nat}{x y:Int}{o p:Str}(hx:0<=x)(hx':x<W)(hy:0<=y)(hy':y<=H)(ho:o=cM\/o=cP)(hp:p=cM\/p=cP)(h0:y=0->o=cP)(h1:y=H->p=cP) :
  Qw W H ⟨.str kFl,.int x,.int y,.str o,.str p⟩=true:=by
 unfold Qw edgeB outB
 dsimp only
 rw[fl_up,fl_fl,face_mp ho,face_mp hp]
 simp only[inR,D.eq,Bool.and_eq_true,decide_eq_true_eq,Bool.false_eq_true,if_false,if_true]
 refine⟨⟨⟨hx,by lia⟩,hy,by lia⟩,⟨trivial,trivial⟩,?_⟩
 by_cases q:y=0
 ·subst q
  have:=h0 rfl
  subst this
  simp
 ·by_cases q1:y=H
  ·subst q1
   have:=h1 rfl
   subst this
   have q':¬H=0:=by lia
   simp[q']
  ·simp[q,q1]
theorem pop_ok (r:List (Option S))(v0 v1 v2:Option S)(ns:List Int)(n:Int):xPop 3 (v0::v1::v2::some (.ow ((ns++[n]).map D.int))::r)=.ok (.int n,v0::v1::v2::some (.ow (ns.map D.int))::r):=by
 unfold xPop
 show(match ((ns++[n]).map D.int)[((ns++[n]).map D.int).length - 1]? with|some d=>M.ok (d,_)|none=>.bad)=_
 rw[List.length_map,List.length_append,List.length_singleton,Nat.add_sub_cancel,List.map_append,List.map_cons,List.map_nil]
 rw[List.getElem?_append_right (by simp),List.length_map,Nat.sub_self]
 simp
noncomputable def upB:DSt->M O:=(sSetX 4 (xOp Zu (Zd 4) (xCall Y2 (Qe (eC (.str kUp)) (Qe (Zd 5) (Qe (Zd 6) (Qe (Zd 5) (Qe (Zd 1) (xaLast (xPop 3))))))))))
noncomputable def flB:DSt->M O:=(sSetX 4 (xOp Zu (Zd 4) (xCall Y2 (Qe (eC (.str kFl)) (Qe (Zd 5) (Qe (Zd 6) (Qe (Zd 6) (Qe (Zd 2) (xaLast (xPop 3))))))))))
def hst (v0:Option S)(W H:Nat)(ns:List Int)(ss:List Sd)(v5 v6:Option S):DSt:=[v0,some (.im (.int (W:Int))),some (.im (.int (H:Int))),some (.ow (ns.map D.int)),some (.im (.lst (ss.map Sd.d))),v5,v6]
theorem plus_l {xs ys:List D}(h:xs.length+ys.length<=1000):Zu (.lst xs) (.lst ys)=.ok (.lst (xs++ys)):=by
 show(if few (xs++ys)=true then _ else _)=_
 rw[few_of (by rw[List.length_append];lia),if_pos rfl]
theorem up_turn (v0:Option S){W H:Nat}{x y:Nat}(hx:x<=W)(hy:y<H){c:Int}(ns:List Int)(n:Int)(ss:List Sd)(h:St W H c ss)(hc:c<=10*x+y)(hl:ss.length<=900) :
  ∃ss',St W H (10*x+y+1) ss'/\ss'.length<=ss.length+1/\upB (hst v0 W H (ns++[n]) ss (some (.im (.int (x:Int)))) (some (.im (.int (y:Int)))))=.ok (.nx (hst v0 W H ns ss' (some (.im (.int (x:Int)))) (some (.im (.int (y:Int)))))):=by
 have pp:=pop_ok [some (.im (.lst (ss.map Sd.d))),some (.im (.int (x:Int))),some (.im (.int (y:Int)))] v0 (some (.im (.int (W:Int)))) (some (.im (.int (H:Int)))) ns n
 have ar:(Qe (eC (.str kUp)) (Qe (Zd 5) (Qe (Zd 6) (Qe (Zd 5) (Qe (Zd 1) (xaLast (xPop 3))))))) (hst v0 W H (ns++[n]) ss (some (.im (.int (x:Int)))) (some (.im (.int (y:Int)))))=.ok ([.str kUp,.int x,.int y,.int x,.int W,.int n],hst v0 W H ns ss (some (.im (.int (x:Int)))) (some (.im (.int (y:Int))))):=by
  unfold Qe xaLast hst
  rw[pp]
  rfl
 have run:∀ts:List Sd,ts.length<=1->Y2 [.str kUp,.int x,.int y,.int x,.int W,.int n]=.ok (.im (.lst (ts.map Sd.d)))->upB (hst v0 W H (ns++[n]) ss (some (.im (.int (x:Int)))) (some (.im (.int (y:Int)))))=.ok (.nx (hst v0 W H ns (ss++ts) (some (.im (.int (x:Int)))) (some (.im (.int (y:Int)))))):=fun ts ht hf=>by
  unfold upB sSetX xOp xCall
  rw[ar]
  simp only[M.bind_ok]
  rw[hf]
  show((Zu (.lst (ss.map Sd.d)) (.lst (ts.map Sd.d))).bind fun z=>M.ok (z,hst v0 W H ns ss (some (.im (.int (x:Int)))) (some (.im (.int (y:Int)))))).bind _=_
  rw[plus_l (by rw[List.length_map,List.length_map];lia),<-List.map_append]
  rfl
 rcases f_lside kUp x y x W n with e|⟨o,p,ho,hp,h0,h1,e⟩
 ·exact⟨ss,h.mono (by lia),by lia,(run [] (by simp) e).trans (by rw[List.append_nil])⟩
 ·have sd:=side_up (W:=W) (H:=H) (x:=x) (y:=y) (by lia) (by lia) (by lia) (by lia) ho hp h0 h1
  have ec:cd ⟨.str kUp,.int x,.int y,.str o,.str p⟩=10*x+y:=by
   unfold cd
   dsimp only
   rw[up_up,if_pos rfl]
   lia
  have a:=h.add sd (by rw[ec];exact hc)
  rw[ec] at a
  exact⟨_,a,by rw[List.length_append,List.length_singleton];lia,run [_] (by simp) e⟩
theorem fl_turn (v0:Option S){W H:Nat}{x y:Nat}(hx:x<W)(hy:y<=H){c:Int}(ns:List Int)(n:Int)(ss:List Sd)(h:St W H c ss)(hc:c<=100+10*x+y)(hl:ss.length<=900) :
  ∃ss',St W H (100+10*x+y+1) ss'/\ss'.length<=ss.length+1/\flB (hst v0 W H (ns++[n]) ss (some (.im (.int (x:Int)))) (some (.im (.int (y:Int)))))=.ok (.nx (hst v0 W H ns ss' (some (.im (.int (x:Int)))) (some (.im (.int (y:Int)))))):=by
 have pp:=pop_ok [some (.im (.lst (ss.map Sd.d))),some (.im (.int (x:Int))),some (.im (.int (y:Int)))] v0 (some (.im (.int (W:Int)))) (some (.im (.int (H:Int)))) ns n
 have ar:(Qe (eC (.str kFl)) (Qe (Zd 5) (Qe (Zd 6) (Qe (Zd 6) (Qe (Zd 2) (xaLast (xPop 3))))))) (hst v0 W H (ns++[n]) ss (some (.im (.int (x:Int)))) (some (.im (.int (y:Int)))))=.ok ([.str kFl,.int x,.int y,.int y,.int H,.int n],hst v0 W H ns ss (some (.im (.int (x:Int)))) (some (.im (.int (y:Int))))):=by
  unfold Qe xaLast hst
  rw[pp]
  rfl
 have run:∀ts:List Sd,ts.length<=1->Y2 [.str kFl,.int x,.int y,.int y,.int H,.int n]=.ok (.im (.lst (ts.map Sd.d)))->flB (hst v0 W H (ns++[n]) ss (some (.im (.int (x:Int)))) (some (.im (.int (y:Int)))))=.ok (.nx (hst v0 W H ns (ss++ts) (some (.im (.int (x:Int)))) (some (.im (.int (y:Int)))))):=fun ts ht hf=>by
  unfold flB sSetX xOp xCall
  rw[ar]
  simp only[M.bind_ok]
  rw[hf]
  show((Zu (.lst (ss.map Sd.d)) (.lst (ts.map Sd.d))).bind fun z=>M.ok (z,hst v0 W H ns ss (some (.im (.int (x:Int)))) (some (.im (.int (y:Int)))))).bind _=_
  rw[plus_l (by rw[List.length_map,List.length_map];lia),<-List.map_append]
  rfl
 rcases f_lside kFl x y y H n with e|⟨o,p,ho,hp,h0,h1,e⟩
 ·exact⟨ss,h.mono (by lia),by lia,(run [] (by simp) e).trans (by rw[List.append_nil])⟩
 ·have sd:=side_fl (W:=W) (H:=H) (x:=x) (y:=y) (by lia) (by lia) (by lia) (by lia) ho hp h0 h1
  have ec:cd ⟨.str kFl,.int x,.int y,.str o,.str p⟩=100+10*x+y:=by
   unfold cd
   dsimp only
   rw[fl_up,if_neg (by decide)]
  have a:=h.add sd (by rw[ec];exact hc)
  rw[ec] at a
  exact⟨_,a,by rw[List.length_append,List.length_singleton];lia,run [_] (by simp) e⟩
theorem last_ex {ns:List Int}{k:Nat}(h:k+1<=ns.length):∃ms n,ns=ms++[n]/\k<=ms.length:=by
 have hne:ns≠[]:=by intro q;rw[q] at h;simp at h
 exact⟨ns.dropLast,ns.getLast hne,(List.dropLast_concat_getLast hne).symm,by rw[List.length_dropLast];lia⟩
theorem in_loop (v0:Option S){W H:Nat}{x:Nat}{B:DSt->M O}{m:Nat}{b:Int}(turn:∀(y:Nat) (c:Int) (ns:List Int) (n:Int) (ss:List Sd),y<m->St W H c ss->c<=b+y->ss.length<=900->∃ss',St W H (b+y+1) ss'/\ss'.length<=ss.length+1/\B (hst v0 W H (ns++[n]) ss (some (.im (.int (x:Int)))) (some (.im (.int (y:Int)))))=.ok (.nx (hst v0 W H ns ss' (some (.im (.int (x:Int)))) (some (.im (.int (y:Int)))))) ) :
  ∀(k a:Nat) (ns:List Int) (ss:List Sd) (v6:Option S) (j:Nat),a+k=m->St W H (b+a) ss->j+k<=ns.length->ss.length+k<=900 ->
  ∃ns' ss' v6',St W H (b+m) ss'/\ss'.length<=ss.length+k/\j<=ns'.length/\Q0 (gNm 6) B ((List.range' a k).map fun(y:Nat)=>D.int (y:Int)) (hst v0 W H ns ss (some (.im (.int (x:Int)))) v6)=.ok (.nx (hst v0 W H ns' ss' (some (.im (.int (x:Int)))) v6'))
 |0,a,ns,ss,v6,j,ha,h,hj,hl=>⟨ns,ss,v6,h.mono (by lia),by lia,by lia,rfl⟩
 |k+1,a,ns,ss,v6,j,ha,h,hj,hl=>by
  obtain⟨ms,n,rfl,hm⟩:=last_ex (k:=j+k) (ns:=ns) (by lia)
  obtain⟨s1,h1,l1,e1⟩:=turn a _ ms n ss (by lia) h (by lia) (by lia)
  obtain⟨ns',ss',v6',h2,l2,l3,e2⟩:=in_loop v0 turn k (a+1) ms s1 (some (.im (.int (a:Int)))) j (by lia) (h1.mono (by lia)) hm (by lia)
  refine⟨ns',ss',v6',h2,by lia,l3,?_⟩
  rw[List.range'_succ,List.map_cons]
  exact(Yv (sd1:=hst v0 W H (ms++[n]) ss (some (.im (.int (x:Int)))) (some (.im (.int (a:Int))))) rfl e1).trans e2
theorem out_loop (v0:Option S){W H:Nat}{F:DSt->M O}{m M':Nat}{b:Int}(turn:∀(x j:Nat) (c:Int) (ns:List Int) (ss:List Sd) (v6:Option S),x<M'->St W H c ss->c<=b+10*x->j+m<=ns.length->ss.length+m<=900->∃ns' ss' v6',St W H (b+10*x+10) ss'/\ss'.length<=ss.length+m/\j<=ns'.length/\F (hst v0 W H ns ss (some (.im (.int (x:Int)))) v6)=.ok (.nx (hst v0 W H ns' ss' (some (.im (.int (x:Int)))) v6'))) :
  ∀(k a:Nat) (ns:List Int) (ss:List Sd) (v5 v6:Option S) (j:Nat),a+k=M'->St W H (b+10*a) ss->j+k*m<=ns.length->ss.length+k*m<=900 ->
  ∃ns' ss' v5' v6',St W H (b+10*M') ss'/\ss'.length<=ss.length+k*m/\j<=ns'.length/\Q0 (gNm 5) F ((List.range' a k).map fun(y:Nat)=>D.int (y:Int)) (hst v0 W H ns ss v5 v6)=.ok (.nx (hst v0 W H ns' ss' v5' v6'))
 |0,a,ns,ss,v5,v6,j,ha,h,hj,hl=>⟨ns,ss,v5,v6,h.mono (by lia),by lia,by lia,rfl⟩
 |k+1,a,ns,ss,v5,v6,j,ha,h,hj,hl=>by
  rw[Nat.add_mul,Nat.one_mul] at hj hl
  obtain⟨n1,s1,v61,h1,l1,j1,e1⟩:=turn a (j+k*m) _ ns ss v6 (by lia) h (by lia) (by lia) (by lia)
  obtain⟨ns',ss',v5',v6',h2,l2,l3,e2⟩:=out_loop v0 turn k (a+1) n1 s1 (some (.im (.int (a:Int)))) v61 j (by lia) (h1.mono (by lia)) j1 (by lia)
  refine⟨ns',ss',v5',v6',h2,by rw[Nat.add_mul,Nat.one_mul];lia,l3,?_⟩
  rw[List.range'_succ,List.map_cons]
  exact(Yv (sd1:=hst v0 W H ns ss (some (.im (.int (a:Int)))) v6) rfl e1).trans e2
theorem f_hall (c:Int){W H:Nat}(hW:1<=W)(hW':W<=8)(hH:1<=H)(hH':H<=8):∃ss,(∃s0,ss=srt s0)/\Hall W H ss 160/\F_l_hall [.int c,.int (W:Int),.int (H:Int)]=.ok (.im (Xg W H ss)):=by
 have w72:(W+1)*H<=9*8:=Nat.mul_le_mul (by lia) hH'
 have w73:W*(H+1)<=8*9:=Nat.mul_le_mul hW' (by lia)
 have w1:(W+1)*H=W*H+H:=by rw[Nat.add_mul,Nat.one_mul]
 have w2:W*(H+1)=W*H+W:=by rw[Nat.mul_add,Nat.mul_one]
 obtain⟨es,hes,_,en⟩:=f_numbers c (2*(W*H)+W+H) (by lia)
 have s2:sm 2=true:=smI (by decide) (by decide)
 have sW:sm (W:Int)=true:=smI (by lia) (by lia)
 have sH:sm (H:Int)=true:=smI (by lia) (by lia)
 have s2W:sm (2*(W:Int))=true:=smI (by lia) (by lia)
 have cnt:eOp Zu (eOp Zu (eOp Yw (eOp Yw (eC (.int 2)) (Zd 1)) (Zd 2)) (Zd 1)) (Zd 2) ([some (S.im (.int c)),some (S.im (.int (W:Int))),some (S.im (.int (H:Int)))]++List.replicate 4 none)=.ok (.int ((2*(W*H)+W+H:Nat):Int)):=by
  refine(Zg (Zg (Zg (Zg rfl rfl (gT s2 sW)) rfl (gT s2W sH)) rfl rfl) rfl rfl).trans ?_
  show M.ok (D.int (2*(W:Int)*(H:Int)+W+H))=_
  congr 2
  rw[Int.mul_assoc]
  push_cast
  rfl
 have own:sOwn 3 (fCall Yo (Zb (Zd 0) (Zb (eOp Zu (eOp Zu (eOp Yw (eOp Yw (eC (.int 2)) (Zd 1)) (Zd 2)) (Zd 1)) (Zd 2)) Zj))) ([some (S.im (.int c)),some (S.im (.int (W:Int))),some (S.im (.int (H:Int)))]++List.replicate 4 none)=.ok (.nx [some (S.im (.int c)),some (S.im (.int (W:Int))),some (S.im (.int (H:Int))),some (.ow (es.map D.int)),none,none,none]):=by
  refine own_ok (ds:=es.map D.int) ?_
  unfold fCall
  rw[aC (d:=.int c) rfl (a1 cnt),M.bind_ok,en]
 have st0:St W H (0+10*(0:Nat)) []:=⟨⟨fun s hs=>(by cases hs),by simp⟩,fun s hs=>by cases hs⟩
 have ra:∀(n:Nat) (fs:DSt->M (List D)) (sd:DSt),fs sd=.ok [.int (n:Int)]->n<=1000->Yj fs sd=.ok ((List.range' 0 n).map fun(y:Nat)=>D.int (y:Int)):=fun n fs sd h hn=>by
  rw[iR1 h hn,List.range_eq_range']
 obtain⟨n1,s1,v5,v6,h1,l1,j1,e1⟩:=out_loop (some (S.im (.int c))) (W:=W) (H:=H) (m:=H) (M':=W+1) (b:=0) (F:=sFor (Yj (Zb (Zd 2) Zj)) (gNm 6) upB) (fun x j c' ns ss v6 hx hs hc hj hl=>by
  obtain⟨ns',ss',v6',a1',a2,a3,a4⟩:=in_loop (some (S.im (.int c))) (W:=W) (H:=H) (x:=x) (B:=upB) (m:=H) (b:=10*x) (fun y c ns n ss hy h hc hl=>up_turn _ (by lia) hy ns n ss h hc hl) H 0 ns ss v6 j (by lia) (hs.mono (by lia)) hj hl
  refine⟨ns',ss',v6',a1'.mono (by lia),a2,a3,?_⟩
  exact(Q5 (ra H _ _ (a1 rfl) (by lia))).trans a4) (W+1) 0 es [] none none (W*(H+1)) (by lia) st0 (by rw[hes];lia) (by simp;lia)
 obtain⟨n2,s2',v5',v6',h2,l2,j2,e2⟩:=out_loop (some (S.im (.int c))) (W:=W) (H:=H) (m:=H+1) (M':=W) (b:=100) (F:=sFor (Yj (Zb (eOp Zu (Zd 2) (eC (.int 1))) Zj)) (gNm 6) flB) (fun x j c' ns ss v6 hx hs hc hj hl=>by
  obtain⟨ns',ss',v6',a1',a2,a3,a4⟩:=in_loop (some (S.im (.int c))) (W:=W) (H:=H) (x:=x) (B:=flB) (m:=H+1) (b:=100+10*x) (fun y c ns n ss hy h hc hl=>fl_turn _ hx (by lia) ns n ss h hc hl) (H+1) 0 ns ss v6 j (by lia) (hs.mono (by lia)) hj hl
  refine⟨ns',ss',v6',a1'.mono (by lia),a2,a3,?_⟩
  exact(Q5 (ra (H+1) _ _ (a1 (Zg rfl rfl rfl)) (by lia))).trans a4) W 0 n1 s1 v5 v6 0 (by lia) (h1.mono (by lia)) (by lia) (by simp at l1;lia)
 have l3:s2'.length<=160:=by simp at l1;lia
 refine⟨srt s2',⟨s2',rfl⟩,⟨hW,hW',hH,hH',h2.g.perm (srt_perm _),by rw[(srt_perm _).length_eq];exact l3,by lia⟩,?_⟩
 refine(fn3 _ _ _ _ _).trans (Ql (go own (go rfl (go ((Q5 (ra (W+1) _ _ (a1 (Zg rfl rfl rfl)) (by lia))).trans e1) (go ((Q5 (ra W _ _ (a1 rfl) (by lia))).trans e2) (Z3 ?_))))))
 unfold Xg
 rw[srt_d]
 refine tup3 rfl rfl (cb_ok (a1 (d:=.lst (Q6 (s2'.map Sd.d))) (cb_ok (a1 (d:=.lst (s2'.map Sd.d)) rfl) ?_)) rfl)
 show sortGD (s2'.map Sd.d)=_
 unfold sortGD
 rw[few_of (by rw[List.length_map];lia),sides_cond h2.g.ok]
 rfl
end Law
set_option maxRecDepth 100000
set_option maxHeartbeats 4000000
set_option linter.all false
namespace Law
open PySem L2 DL
structure Sq where
 u:Bool
 x:Int
 y:Int
 o:Str
 p:Str
 deriving DecidableEq
def kd (u:Bool):Str:=if u then kUp else kFl
def Sq.s (s:Sq):Sd:=⟨.str (kd s.u),.int s.x,.int s.y,.str s.o,.str s.p⟩
theorem sq_of {W H:Int}{s:Sd}(h:Qw W H s=true):∃q:Sq,s=q.s:=by
 have he:=side_edge h
 obtain⟨k,i,j,e1,e2,e3,_⟩:=edge_key he
 have f:faceB s.o=true/\faceB s.p=true:=by
  unfold Qw at h
  rw[Bool.and_eq_true,Bool.and_eq_true,Bool.and_eq_true] at h
  exact h.2.1
 obtain⟨c1,f1⟩:∃c:Str,s.o=.str c:=by rcases face_is f.1 with e|e<;>exact⟨_,e⟩
 obtain⟨c2,f2⟩:∃c:Str,s.p=.str c:=by rcases face_is f.2 with e|e<;>exact⟨_,e⟩
 have hk:k=kUp\/k=kFl:=by
  unfold edgeB isUp isFl at he
  rw[e1] at he
  simp only[D.eq] at he
  by_cases h1:k=kUp
  ·exact .inl h1
  ·by_cases h2:k=kFl
   ·exact .inr h2
   ·simp[h1,h2] at he
 obtain⟨sk,sx,sy,so,sp⟩:=s
 dsimp only at e1 e2 e3 f1 f2
 subst e1;subst e2;subst e3;subst f1;subst f2
 rcases hk with rfl|rfl
 ·exact⟨⟨true,i,j,c1,c2⟩,rfl⟩
 ·exact⟨⟨false,i,j,c1,c2⟩,rfl⟩
def okQ (W H:Int)(s:Sq):Prop:=(s.o=cM\/s.o=cP)/\(s.p=cM\/s.p=cP) /\
 if s.u then(0<=s.x/\s.x<=W/\0<=s.y/\s.y<H/\(s.x=0->s.o=cP)/\(s.x=W->s.p=cP)) else(0<=s.x/\s.x<W/\0<=s.y/\s.y<=H/\(s.y=0->s.o=cP)/\(s.y=H->s.p=cP))
theorem okQ_side {W H:Nat}{s:Sq}(h:okQ W H s):Qw W H s.s=true:=by
 obtain⟨u,x,y,o,p⟩:=s
 obtain⟨h1,h2,h3⟩:=h
 cases u with
 |true =>
  obtain⟨a,b,c,d,e,f⟩:=h3
  exact side_up a b c d h1 h2 e f
 |false =>
  obtain⟨a,b,c,d,e,f⟩:=h3
  exact side_fl a b c d h1 h2 e f
theorem side_okQ {W H:Nat}(hW:1<=W)(hH:1<=H){s:Sq}(h:Qw W H s.s=true):okQ W H s:=by
 obtain⟨u,x,y,o,p⟩:=s
 unfold Qw at h
 rw[Bool.and_eq_true,Bool.and_eq_true,Bool.and_eq_true] at h
 obtain⟨he,⟨f1,f2⟩,hr⟩:=h
 have g1:o=cM\/o=cP:=by
  rcases face_is (d:=.str o) f1 with e|e
  ·injection e with e;exact .inl e
  ·injection e with e;exact .inr e
 have g2:p=cM\/p=cP:=by
  rcases face_is (d:=.str p) f2 with e|e
  ·injection e with e;exact .inl e
  ·injection e with e;exact .inr e
 refine⟨g1,g2,?_⟩
 cases u with
 |true =>
  unfold edgeB Sq.s kd at he
  dsimp only at he
  rw[if_pos rfl,up_up,if_pos rfl,Bool.and_eq_true] at he
  simp only[inR,Bool.and_eq_true,decide_eq_true_eq] at he
  unfold outB Sq.s kd at hr
  dsimp only at hr
  rw[if_pos rfl,up_up,if_pos rfl,if_pos rfl] at hr
  simp only[D.eq,beq_iff_eq] at hr
  refine⟨he.1.1,he.1.2,he.2.1,by have:=he.2.2;dsimp only;lia,fun e=>?_,fun e=>?_⟩
  ·dsimp only at e
   rw[if_pos e] at hr
   simpa using hr
  ·dsimp only at e
   rw[if_neg (by rw[e];lia),if_pos e] at hr
   simpa using hr
 |false =>
  have he:edgeB W H ⟨.str kFl,.int x,.int y,.str o,.str p⟩=true:=he
  unfold edgeB at he
  dsimp only at he
  rw[fl_up,fl_fl,if_neg (by decide),if_pos rfl,Bool.and_eq_true] at he
  simp only[inR,Bool.and_eq_true,decide_eq_true_eq] at he
  have ho:outB W H (Sq.s ⟨false,x,y,o,p⟩)=outB W H ⟨.str kFl,.int x,.int y,.str o,.str p⟩:=rfl
  rw[ho] at hr
  unfold outB at hr
  dsimp only at hr
  rw[fl_up] at hr
  simp only[Bool.false_eq_true,if_false] at hr
  simp only[D.eq,beq_iff_eq] at hr
  refine⟨he.1.1,by have:=he.1.2;dsimp only;lia,he.2.1,he.2.2,fun e=>?_,fun e=>?_⟩
  ·dsimp only at e
   rw[if_pos e] at hr
   simpa[Sq.s,D.eq] using hr
  ·dsimp only at e
   rw[if_neg (by rw[e];lia),if_pos e] at hr
   simpa[Sq.s,D.eq] using hr
theorem upfl:kUp≠kFl:=by decide +kernel
theorem kd_inj {a b:Bool}(h:kd a=kd b):a=b:=by
 cases a<;>cases b
 ·rfl
 ·exact(upfl h.symm).elim
 ·exact(upfl h).elim
 ·rfl
def Sq.e (q:Sq):Bool×Int×Int:=(q.u,q.x,q.y)
theorem sq_key (q:Sq):q.s.key=some [.inr (kd q.u),.inl q.x,.inl q.y]:=rfl
theorem e_key {a b:Sq}(h:a.s.key=b.s.key):a.e=b.e:=by
 rw[sq_key,sq_key] at h
 simp at h
 unfold Sq.e
 rw[kd_inj h.1,h.2.1,h.2.2]
structure GoodQ (W H:Nat) (qs:List Sq):Prop where
 ok:∀q∈qs,okQ W H q
 nd:(qs.map Sq.e).Nodup
theorem GoodQ.good {W H:Nat}{qs:List Sq}(h:GoodQ W H qs):Good W H (qs.map Sq.s):=by
 refine⟨fun s hs=>?_,?_⟩
 ·obtain⟨q,hq,rfl⟩:=List.mem_map.mp hs
  exact okQ_side (h.ok q hq)
 ·rw[List.map_map]
  have:=h.nd
  unfold List.Nodup at this ⊢
  rw[List.pairwise_map] at this ⊢
  exact this.imp fun {a b} n z=>n (e_key z)
theorem good_Q {W H:Nat}(hW:1<=W)(hH:1<=H):∀{ss:List Sd},Good W H ss->∃qs,ss=qs.map Sq.s/\GoodQ W H qs
 |[],_=>⟨[],rfl,⟨fun q hq=>(by cases hq),by simp⟩⟩
 |s::ss,h=>by
  obtain⟨q,rfl⟩:=sq_of (h.ok s (by simp))
  have hn:=h.nd
  rw[List.map_cons,List.nodup_cons] at hn
  obtain⟨qs,rfl,g⟩:=good_Q hW hH (ss:=ss) ⟨fun t ht=>h.ok t (by simp[ht]),hn.2⟩
  refine⟨q::qs,rfl,fun r hr=>?_,?_⟩
  ·rcases List.mem_cons.mp hr with rfl|hr
   ·exact side_okQ hW hH (h.ok _ (by simp))
   ·exact g.ok r hr
  ·rw[List.map_cons,List.nodup_cons]
   refine⟨fun hm=>hn.1 ?_,g.nd⟩
   obtain⟨r,hr,e⟩:=List.mem_map.mp hm
   rw[List.map_map]
   refine List.mem_map.mpr ⟨r,hr,?_⟩
   show r.s.key=q.s.key
   rw[sq_key,sq_key]
   unfold Sq.e at e
   injection e with e1 e
   injection e with e2 e3
   rw[e1,e2,e3]
theorem q0 (q:Sq):gIx q.s.d (.int 0)=.ok (.str (kd q.u)):=by unfold Sq.s Sd.d;simp[gIx,atI0]
theorem q1 (q:Sq):gIx q.s.d (.int 1)=.ok (.int q.x):=by unfold Sq.s Sd.d;simp[gIx,atI1]
theorem q2 (q:Sq):gIx q.s.d (.int 2)=.ok (.int q.y):=by unfold Sq.s Sd.d;simp[gIx,atI2]
theorem q3 (q:Sq):gIx q.s.d (.int 3)=.ok (.str q.o):=by unfold Sq.s Sd.d;simp[gIx,atI3]
theorem q4 (q:Sq):gIx q.s.d (.int 4)=.ok (.str q.p):=by unfold Sq.s Sd.d;simp[gIx,atI4]
theorem tup5 {fa fb fc fd fe:DSt->M D}{sd:DSt}{a b c d e:D}(h1:fa sd=.ok a)(h2:fb sd=.ok b)(h3:fc sd=.ok c)(h4:fd sd=.ok d)(h5:fe sd=.ok e):Qn (Zb fa (Zb fb (Zb fc (Zb fd (Zb fe Zj))))) sd=.ok (.tup [a,b,c,d,e]):=by
 unfold Qn
 rw[aC h1 (aC h2 (aC h3 (aC h4 (a1 h5))))]
 rfl
theorem kd_eq (u:Bool):gEq (.str (kd u)) (.str kUp)=.ok (.bl u):=by
 rw[gEq_b (by simp[D.dep])]
 cases u
 ·simp only[D.eq,kd]
  rw[show((if false=true then kUp else kFl)==kUp)=false by decide +kernel]
 ·simp only[D.eq,kd]
  simp
theorem mapQ {α:Type}{gt:D->DSt->M DSt}{fe:DSt->M D}{sd0:DSt}(e g:α->D):∀l:List α,(∀a∈l,∃sd1,gt (e a) sd0=.ok sd1/\fe sd1=.ok (g a))->mapD gt fe sd0 (l.map e)=.ok (l.map g)
 |[],_=>rfl
 |a::l,h=>by
  obtain⟨sd1,h1,h2⟩:=h a (by simp)
  rw[List.map_cons,List.map_cons]
  simp only[mapD,h1,h2,mapQ e g l fun b hb=>h b (by simp[hb])]
theorem comp_ok {α:Type}{fi:DSt->M (List D)}{n0:Nat}{caps:List Nat}{gt:D->DSt->M DSt}{fe:DSt->M D}{sd:DSt}(e g:α->D){l:List α}(hi:fi sd=.ok (l.map e))(hl:l.length<=1000)(h:∀a∈l,∃sd1,gt (e a) (sdC n0 caps sd)=.ok sd1/\fe sd1=.ok (g a)) :
  eNew (fComp fi n0 caps gt fe) sd=.ok (.lst (l.map g)):=by
 unfold eNew fComp
 rw[hi,M.bind_ok,few_of (by rw[List.length_map];lia),if_pos rfl,mapQ e g l h]
 rfl
theorem seq_t {f:DSt->M D}{sd:DSt}{ds:List D}(h:f sd=.ok (.tup ds)):iSeq f sd=.ok ds:=by
 unfold iSeq
 rw[h]
 rfl
theorem seq_l {f:DSt->M D}{sd:DSt}{ds:List D}(h:f sd=.ok (.lst ds)):iSeq f sd=.ok ds:=by
 unfold iSeq
 rw[h]
 rfl
def Zm (W H:Nat)(qs:List Sq):D:=Xg W H (qs.map Sq.s)
theorem hallQ_d (W H:Nat)(qs:List Sq):Zm W H qs=.tup [.int (W:Int),.int (H:Int),.tup (qs.map fun q=>q.s.d)]:=by
 unfold Zm Xg
 rw[List.map_map]
 rfl
structure HQ (W H:Nat) (qs:List Sq):Prop where
 w1:1<=W
 w2:W<=8
 h1:1<=H
 h2:H<=8
 g:GoodQ W H qs
 l:qs.length<=900
noncomputable def srtQ (qs:List Sq):List Sd:=srt (qs.map Sq.s)
def keyD (ks:List Key):D:=.tup (ks.map fun k=>match k with
 |.inl i=>.int i
 |.inr s=>.str s)
theorem key_row (q:Sq):keyD (Qg q.s.d)=q.s.d:=rfl
theorem sort_perm {qs rs:List Sq}(h:qs.Perm rs):srtQ qs=srtQ rs:=by
 have key:∀l:List Sq,(Q6 ((l.map Sq.s).map Sd.d))=((Q6 ((l.map Sq.s).map Sd.d)).map Qg).map keyD:=fun l=>by
  have hm:∀d∈Q6 ((l.map Sq.s).map Sd.d),keyD (Qg d)=d:=fun d hd=>by
   have hm:=(Q9 _).mem_iff.mp hd
   rw[List.map_map] at hm
   obtain⟨q,_,rfl⟩:=List.mem_map.mp hm
   rfl
  generalize Q6 ((l.map Sq.s).map Sd.d)=L at hm ⊢
  rw[List.map_map]
  conv=>lhs;rw[<-List.map_id L]
  exact List.map_congr_left fun d hd=>(hm d hd).symm
 have pk:((Q6 ((qs.map Sq.s).map Sd.d)).map Qg).Perm ((Q6 ((rs.map Sq.s).map Sd.d)).map Qg) :=
  (((Q9 _).trans (((h.map Sq.s).map Sd.d).trans (Q9 _).symm))).map Qg
 have e:=keys_same pk (List.pairwise_map.mpr (Y0 _)) (List.pairwise_map.mpr (Y0 _))
 unfold srtQ srt
 rw[key qs,e,<-key rs]
def unQ (s:Sd):Sq:=match s with
 |⟨.str k,.int x,.int y,.str o,.str p⟩=>⟨k==kUp,x,y,o,p⟩
 |_=>⟨true,0,0,cP,cP⟩
theorem un_q (q:Sq):unQ q.s=q:=by
 obtain⟨u,x,y,o,p⟩:=q
 show(⟨kd u==kUp,x,y,o,p⟩:Sq)=_
 cases u
 ·rw[show(kd false==kUp)=false by decide +kernel]
 ·rw[show(kd true==kUp)=true by decide +kernel]
theorem perm_q {qs rs:List Sq}(h:(qs.map Sq.s).Perm (rs.map Sq.s)):qs.Perm rs:=by
 have:=h.map unQ
 rw[List.map_map,List.map_map] at this
 have e:∀l:List Sq,l.map (unQ∘Sq.s)=l:=fun l=>by
  conv=>rhs;rw[<-List.map_id l]
  exact List.map_congr_left fun q _=>un_q q
 rwa[e,e] at this
structure Nx (W H:Nat) (qs rs:List Sq):Prop where
 h:HQ W H rs
 p:rs.Perm qs
 s:rs.map Sq.s=srtQ qs
theorem nx_of {W H:Nat}{qs:List Sq}(h:HQ W H qs):∃rs,Nx W H qs rs:=by
 obtain⟨rs,e,g⟩:=good_Q h.w1 h.h1 (h.g.good.perm (srt_perm _))
 have p:rs.Perm qs:=perm_q (by rw[<-e];exact srt_perm _)
 exact⟨rs,⟨h.w1,h.w2,h.h1,h.h2,g,by rw[p.length_eq];exact h.l⟩,p,e.symm⟩
end Law
set_option maxRecDepth 100000
set_option maxHeartbeats 4000000
set_option linter.all false
namespace Law
open PySem L2 DL
def atL (x:Int)(q:Sq):Bool:=q.u&&(q.x==x)
def shQ (b:Int)(q:Sq):Sq:=⟨q.u,q.x+b,q.y,q.o,q.p⟩
theorem eq_int (a b:Int):gEq (.int a) (.int b)=.ok (.bl (a==b)):=by rw[gEq_b (by simp[D.dep])];simp only[D.eq]
theorem and_bb {f g:DSt->M D}{sd:DSt}{a b:Bool}(h1:f sd=.ok (.bl a))(h2:g sd=.ok (.bl b)):eAnd f g sd=.ok (.bl (a&&b)):=by
 cases a
 ·exact and_f h1
 ·exact and_ok h1 h2
theorem f_line (q:Sq)(x:Int):Qm [q.s.d,.int x]=.ok (.im (.bl (atL x q))) :=
 (fn2 _ _ _ _).trans (Ql (Z3 (and_bb (Zg (Zg rfl rfl (q0 q)) rfl (kd_eq q.u)) (Zg (Zg rfl rfl (q1 q)) rfl (eq_int _ _)))))
theorem f_shift (q:Sq)(b:Int):Q2 [q.s.d,.int b]=.ok (.im (shQ b q).s.d) :=
 (fn2 _ _ _ _).trans (Ql (Z3 (tup5 (Zg rfl rfl (q0 q)) (Zg (Zg rfl rfl (q1 q)) rfl rfl) (Zg rfl rfl (q2 q)) (Zg rfl rfl (q3 q)) (Zg rfl rfl (q4 q)))))
def isE (x y:Int)(q:Sq):Bool:=q.u&&(q.x==x)&&(q.y==y)
def fcO (qs:List Sq)(x y:Int):Str:=match qs.find? (isE x y) with
 |some q=>q.o
 |none=>cP
def fcP (qs:List Sq)(x y:Int):Str:=match qs.find? (isE x y) with
 |some q=>q.p
 |none=>cP
theorem e3_eq (q:Sq)(x y:Int):D.eq (.tup [.str (kd q.u),.int q.x,.int q.y]) (.tup [.str kUp,.int x,.int y])=isE x y q:=by
 simp only[D.eq,D.eqs,Bool.and_true]
 unfold isE
 have h:(kd q.u==kUp)=q.u:=by
  cases q.u
  ·decide +kernel
  ·decide +kernel
 rw[h,Bool.and_assoc]
noncomputable def fcB:DSt->M O:=(sIf (DL.tB (eOp gEq (eSl (Zd 4) Y6 (Y7 (eC (.int 3)))) (Qn (Zb (Zd 1) (Zb (Zd 2) (Zb (Zd 3) Zj)))))) (Qs (eSl (Zd 4) (Y7 (eC (.int 3))) Y6)) Yl)
theorem fc_loop (h:Option S)(x y:Int):∀(qs:List Sq) (v:Option S),
  (qs.find? (isE x y)=none/\∃v',Q0 (gNm 4) fcB (qs.map fun q=>q.s.d) [h,some (.im (.str kUp)),some (.im (.int x)),some (.im (.int y)),v]=.ok (.nx [h,some (.im (.str kUp)),some (.im (.int x)),some (.im (.int y)),v'])) \/
  (∃q,qs.find? (isE x y)=some q/\Q0 (gNm 4) fcB (qs.map fun q=>q.s.d) [h,some (.im (.str kUp)),some (.im (.int x)),some (.im (.int y)),v]=.ok (.rt (.im (.tup [.str q.o,.str q.p]))))
 |[],v=>.inl ⟨rfl,v,rfl⟩
 |q::qs,v=>by
  have t:DL.tB (eOp gEq (eSl (Zd 4) Y6 (Y7 (eC (.int 3)))) (Qn (Zb (Zd 1) (Zb (Zd 2) (Zb (Zd 3) Zj))))) [h,some (.im (.str kUp)),some (.im (.int x)),some (.im (.int y)),some (.im q.s.d)]=.ok (isE x y q):=by
   have sl:eSl (Zd 4) Y6 (Y7 (eC (.int 3))) [h,some (.im (.str kUp)),some (.im (.int x)),some (.im (.int y)),some (.im q.s.d)]=.ok (.tup [.str (kd q.u),.int q.x,.int q.y]):=rfl
   refine Qh ((Zg sl (show _=M.ok (D.tup [.str kUp,.int x,.int y]) from rfl) (gEq_b (by simp[D.dep,D.deps]))).trans ?_)
   rw[e3_eq]
  rw[List.map_cons,List.find?_cons]
  cases e:isE x y q with
  |true=>exact .inr ⟨q,rfl,loop_rt (sd1:=[h,some (.im (.str kUp)),some (.im (.int x)),some (.im (.int y)),some (.im q.s.d)]) rfl (Z2 (t.trans (by rw[e])) (Z3 rfl))⟩
  |false =>
   have n:=Yv (r:=qs.map fun q=>q.s.d) (g:=gNm 4) (f:=fcB) (d:=q.s.d) (sd:=[h,some (.im (.str kUp)),some (.im (.int x)),some (.im (.int y)),v]) (sd1:=[h,some (.im (.str kUp)),some (.im (.int x)),some (.im (.int y)),some (.im q.s.d)]) rfl (Qc (t.trans (by rw[e])))
   rw[n]
   exact fc_loop h x y qs (some (.im q.s.d))
theorem hq0 (W H:Nat)(qs:List Sq):gIx (Zm W H qs) (.int 0)=.ok (.int (W:Int)):=hx0 W H _
theorem hq1 (W H:Nat)(qs:List Sq):gIx (Zm W H qs) (.int 1)=.ok (.int (H:Int)):=hx1 W H _
theorem hq2 (W H:Nat)(qs:List Sq):gIx (Zm W H qs) (.int 2)=.ok (.tup (qs.map fun q=>q.s.d)):=by
 rw[hallQ_d];simp[gIx,atI2]
theorem f_faces {W H:Nat}{qs:List Sq}{x y:Int}(hx:x=0\/x=W):F_faces [Zm W H qs,.str kUp,.int x,.int y]=.ok (.im (.tup [.str (fcO qs x y),.str (fcP qs x y)])):=by
 have e0:=hq0 W H qs
 have e1:=hq1 W H qs
 have e2:=hq2 W H qs
 generalize Zm W H qs=hall at e0 e1 e2 ⊢
 have it:iSeq (eOp gIx (Zd 0) (eC (.int 2))) [some (S.im hall),some (S.im (.str kUp)),some (S.im (.int x)),some (S.im (.int y)),none]=.ok (qs.map fun q=>q.s.d):=seq_t (Zg rfl rfl e2)
 have ho:∃n,outB W H ⟨.str kUp,.int x,.int y,.non,.non⟩=some n:=by
  unfold outB
  dsimp only
  rw[up_up,if_pos rfl,if_pos rfl]
  simp only[D.eq,beq_iff_eq]
  by_cases h0:x=0
  ·exact⟨3,by rw[if_pos h0]⟩
  ·rw[if_neg h0,if_pos (by rcases hx with h|h;exact absurd h h0;exact h)]
   exact⟨4,rfl⟩
 obtain⟨n,ho⟩:=ho
 have fo:=f_out (W:=(W:Int)) (H:=(H:Int)) (s:=⟨.str kUp,.int x,.int y,.non,.non⟩) (by simp[D.dep]) (by simp[D.dep]) (by simp[D.dep])
 rw[ho] at fo
 refine(fn4 _ _ _ _ _ _).trans (Ql ?_)
 rcases fc_loop (some (S.im hall)) x y qs none with⟨a,v',lp⟩|⟨q,a,lp⟩
 ·unfold fcO fcP
  rw[a]
  exact go ((Q5 it).trans lp) (go (Qc (Qh (Zg (Zv (aC (Zg rfl rfl e0) (aC (Zg rfl rfl e1) (aC rfl (aC rfl (a1 rfl))))) fo rfl) rfl rfl))) (Z3 (tup2 rfl rfl)))
 ·unfold fcO fcP
  rw[a]
  exact Q4 ((Q5 it).trans lp)
end Law
set_option maxRecDepth 100000
set_option maxHeartbeats 4000000
set_option linter.all false
namespace Law
open PySem L2 DL
theorem filQ {α:Type}{gt:D->DSt->M DSt}{fc:DSt->M Bool}{fe:DSt->M D}{sd0:DSt}(e g:α->D)(q:α->Bool):∀l:List α,(∀a∈l,∃sd1,gt (e a) sd0=.ok sd1/\fc sd1=.ok (q a)/\fe sd1=.ok (g a))->filD gt fc fe sd0 (l.map e)=.ok ((l.filter q).map g)
 |[],_=>rfl
 |a::l,h=>by
  obtain⟨sd1,h1,h2,h3⟩:=h a (by simp)
  have ih:=filQ (gt:=gt) (fc:=fc) (fe:=fe) (sd0:=sd0) e g q l fun b hb=>h b (by simp[hb])
  rw[List.map_cons]
  cases z:q a with
  |true =>
   rw[z] at h2
   rw[List.filter_cons_of_pos z]
   simp only[filD,h1,h2,h3,ih,List.map_cons]
  |false =>
   rw[z] at h2
   rw[List.filter_cons_of_neg (by rw[z];decide)]
   simp only[filD,h1,h2,ih]
theorem compIf_ok {α:Type}{fi:DSt->M (List D)}{n0:Nat}{caps:List Nat}{gt:D->DSt->M DSt}{fc:DSt->M Bool}{fe:DSt->M D}{sd:DSt}(e g:α->D)(q:α->Bool){l:List α}(hi:fi sd=.ok (l.map e))(hl:l.length<=1000)(h:∀a∈l,∃sd1,gt (e a) (sdC n0 caps sd)=.ok sd1/\fc sd1=.ok (q a)/\fe sd1=.ok (g a)) :
  eNew (Xe fi n0 caps gt fc fe) sd=.ok (.lst ((l.filter q).map g)):=by
 unfold eNew Xe
 rw[hi,M.bind_ok,few_of (by rw[List.length_map];lia),if_pos rfl,filQ e g q l h]
 rfl
def nat (x:Int)(q:Sq):Bool:=!atL x q
def btQ (W1:Int)(qs1 qs2:List Sq)(y:Nat):Sq:=⟨true,W1,(y:Int),fcO qs1 W1 y,fcP qs2 0 y⟩
def lfQ (W1:Int)(qs1:List Sq):List Sq:=qs1.filter (nat W1)
def rtQ (W1:Int)(qs2:List Sq):List Sq:=(qs2.filter (nat 0)).map (shQ W1)
def bwQ (W1:Int)(H:Nat)(qs1 qs2:List Sq):List Sq:=(List.range H).map (btQ W1 qs1 qs2)
theorem sq_flat (q:Sq):q.s.flat:=⟨by simp[Sq.s,D.dep],by simp[Sq.s,D.dep],by simp[Sq.s,D.dep],⟨_,rfl⟩,⟨_,rfl⟩⟩
noncomputable def bwB:DSt->M O:=(Yx 5 (Qn (Zb (eC (.str kUp)) (Zb (Zd 2) (Zb (Zd 6) (Zb (eOp gIx (Z0 F_faces (Zb (Zd 0) (Zb (eC (.str kUp)) (Zb (Zd 2) (Zb (Zd 6) Zj))))) (eC (.int 0))) (Zb (eOp gIx (Z0 F_faces (Zb (Zd 1) (Zb (eC (.str kUp)) (Zb (eC (.int 0)) (Zb (Zd 6) Zj))))) (eC (.int 1))) Zj)))))))
theorem app_ok {i:Nat}{f:DSt->M D}{sd:DSt}{ds:List D}{d:D}(h:sd[i]?=some (some (.ow ds)))(hf:f sd=.ok d)(hl:ds.length<=1000):Yx i f sd=.ok (.nx (sd.set i (some (.ow (ds++[d]))))):=by
 unfold Yx
 rw[h]
 dsimp only
 rw[hf,M.bind_ok,few_of (by lia),if_pos rfl]
theorem bw_loop {W1 H1 W2 H2:Nat}(qs1 qs2:List Sq)(v3 v4:Option S):∀(ys:List Nat) (qs:List Sq) (v6:Option S),qs.length+ys.length<=900->∃v6',
  Q0 (gNm 6) bwB (ys.map fun(y:Nat)=>D.int (y:Int)) [some (.im (Zm W1 H1 qs1)),some (.im (Zm W2 H2 qs2)),some (.im (.int (W1:Int))),v3,v4,some (.ow (qs.map fun q=>q.s.d)),v6] =
   .ok (.nx [some (.im (Zm W1 H1 qs1)),some (.im (Zm W2 H2 qs2)),some (.im (.int (W1:Int))),v3,v4,some (.ow ((qs++ys.map (btQ W1 qs1 qs2)).map fun q=>q.s.d)),v6'])
 |[],qs,v6,_=>⟨v6,by simp only[List.map_nil,List.append_nil];rfl⟩
 |y::ys,qs,v6,hl=>by
  rw[List.length_cons] at hl
  have f1:=f_faces (W:=W1) (H:=H1) (qs:=qs1) (x:=W1) (y:=y) (.inr rfl)
  have f2:=f_faces (W:=W2) (H:=H2) (qs:=qs2) (x:=0) (y:=y) (.inl rfl)
  obtain⟨v6',e⟩:=bw_loop (W1:=W1) (H1:=H1) (W2:=W2) (H2:=H2) qs1 qs2 v3 v4 ys (qs++[btQ W1 qs1 qs2 y]) (some (.im (.int (y:Int)))) (by rw[List.length_append,List.length_singleton];lia)
  refine⟨v6',?_⟩
  rw[List.map_cons,List.map_cons]
  rw[List.append_assoc,List.singleton_append] at e
  refine(Yv (sd1:=[some (.im (Zm W1 H1 qs1)),some (.im (Zm W2 H2 qs2)),some (.im (.int (W1:Int))),v3,v4,some (.ow (qs.map fun q=>q.s.d)),some (.im (.int (y:Int)))]) rfl ?_).trans e
  generalize Zm W1 H1 qs1=h1 at f1 ⊢
  generalize Zm W2 H2 qs2=h2 at f2 ⊢
  unfold bwB
  refine(app_ok (ds:=qs.map fun q=>q.s.d) (d:=(btQ W1 qs1 qs2 y).s.d) rfl (tup5 rfl rfl rfl (Zg (Zv (aC rfl (aC rfl (aC rfl (a1 rfl)))) f1 rfl) rfl ?_) (Zg (Zv (aC rfl (aC rfl (aC rfl (a1 rfl)))) f2 rfl) rfl ?_)) (by rw[List.length_map];lia)).trans ?_
  ·simp[gIx,atI0];rfl
  ·simp[gIx,atI1];rfl
  ·rw[List.map_append]
   rfl
theorem Yc {W1 H1 W2 H2:Nat}(hH:H1<=8){qs1 qs2:List Sq}(l1:qs1.length<=300)(l2:qs2.length<=300)(hh:H1=H2) :
  (∀d,Qx [.tup [.int ((W1:Int)+W2),.int (H1:Int),.tup ((lfQ W1 qs1++bwQ W1 H1 qs1 qs2++rtQ W1 qs2).map fun q=>q.s.d)]]=.ok (.im d)->Qv [Zm W1 H1 qs1,Zm W2 H2 qs2]=.ok (.im d)) /\
  (∀x,Qx [.tup [.int ((W1:Int)+W2),.int (H1:Int),.tup ((lfQ W1 qs1++bwQ W1 H1 qs1 qs2++rtQ W1 qs2).map fun q=>q.s.d)]]=.ex x->Qv [Zm W1 H1 qs1,Zm W2 H2 qs2]=.ex x):=by
 have e0:=hq0 W1 H1 qs1
 have e1:=hq1 W1 H1 qs1
 have e2:=hq2 W1 H1 qs1
 have g0:=hq0 W2 H2 qs2
 have g1:=hq1 W2 H2 qs2
 have g2:=hq2 W2 H2 qs2
 obtain⟨v6',lp⟩:=bw_loop (W1:=W1) (H1:=H1) (W2:=W2) (H2:=H2) qs1 qs2 (some (.im (.lst ((lfQ W1 qs1).map fun q=>q.s.d)))) (some (.im (.lst ((rtQ W1 qs2).map fun q=>q.s.d)))) (List.range H1) [] none (by simp;lia)
 generalize Zm W1 H1 qs1=h1 at e0 e1 e2 lp ⊢
 generalize Zm W2 H2 qs2=h2 at g0 g1 g2 lp ⊢
 have t:∀r:List (Option S),DL.tB (eOp gNe (eOp gIx (Zd 0) (eC (.int 1))) (eOp gIx (Zd 1) (eC (.int 1)))) (some (.im h1)::some (.im h2)::r)=.ok (!decide (H1=H2)):=fun r=>by
  refine Qh ((Zg (Zg rfl rfl e1) (Zg rfl rfl g1) (if_pos (by simp[D.dep]))).trans ?_)
  simp only[D.eq]
  congr 3
  rw[Bool.eq_iff_iff,beq_iff_eq,decide_eq_true_eq]
  lia
 ·rw[decide_eq_true hh] at t
  have c1:eNew (Xe (iSeq (eOp gIx (Zd 0) (eC (.int 2)))) 1 [2] (gNm 0) (DL.tN (DL.tB (Z0 Qm (Zb (Zd 0) (Zb (Zd 1) Zj))))) (Zd 0)) [some (.im h1),some (.im h2),some (.im (.int (W1:Int))),none,none,none,none]=.ok (.lst ((lfQ W1 qs1).map fun q=>q.s.d)) :=
   compIf_ok (fun q:Sq=>q.s.d) (fun q=>q.s.d) (nat W1) (seq_t (Zg rfl rfl e2)) (by lia) fun q _=>⟨_,rfl,tN_b (Qh (Zv (aC rfl (a1 rfl)) (f_line q W1) rfl)),rfl⟩
  have c2:eNew (Xe (iSeq (eOp gIx (Zd 1) (eC (.int 2)))) 1 [2] (gNm 0) (DL.tN (DL.tB (Z0 Qm (Zb (Zd 0) (Zb (eC (.int 0)) Zj))))) (Z0 Q2 (Zb (Zd 0) (Zb (Zd 1) Zj)))) [some (.im h1),some (.im h2),some (.im (.int (W1:Int))),some (.im (.lst ((lfQ W1 qs1).map fun q=>q.s.d))),none,none,none]=.ok (.lst ((rtQ W1 qs2).map fun q=>q.s.d)):=by
   refine(compIf_ok (fun q:Sq=>q.s.d) (fun q=>(shQ W1 q).s.d) (nat 0) (seq_t (Zg rfl rfl g2)) (by lia) fun q _=>⟨_,rfl,tN_b (Qh (Zv (aC rfl (a1 rfl)) (f_line q 0) rfl)),Zv (aC rfl (a1 rfl)) (f_shift q W1) rfl⟩).trans ?_
   unfold rtQ
   rw[List.map_map]
   rfl
  have ll:(lfQ (W1:Int) qs1).length<=300:=Nat.le_trans (List.length_filter_le _ _) l1
  have lr:(rtQ (W1:Int) qs2).length<=300:=by unfold rtQ;rw[List.length_map];exact Nat.le_trans (List.length_filter_le _ _) l2
  have lb:(bwQ (W1:Int) H1 qs1 qs2).length<=8:=by unfold bwQ;rw[List.length_map,List.length_range];exact hH
  have p1:Zu (.lst ((lfQ W1 qs1).map fun q=>q.s.d)) (.lst ((bwQ W1 H1 qs1 qs2).map fun q=>q.s.d))=.ok (.lst ((lfQ W1 qs1++bwQ W1 H1 qs1 qs2).map fun q=>q.s.d)):=by
   rw[List.map_append]
   exact plus_l (by rw[List.length_map,List.length_map];lia)
  have p2:Zu (.lst ((lfQ W1 qs1++bwQ W1 H1 qs1 qs2).map fun q=>q.s.d)) (.lst ((rtQ W1 qs2).map fun q=>q.s.d))=.ok (.lst ((lfQ W1 qs1++bwQ W1 H1 qs1 qs2++rtQ W1 qs2).map fun q=>q.s.d)):=by
   rw[List.map_append (l₁:=lfQ W1 qs1++bwQ W1 H1 qs1 qs2)]
   exact plus_l (by rw[List.length_map,List.length_map,List.length_append];lia)
  have run:Qv [h1,h2]=fin' (Qs (eCallX Qx (Zb (Qn (Zb (eOp Zu (Zd 2) (eOp gIx (Zd 1) (eC (.int 0)))) (Zb (eOp gIx (Zd 0) (eC (.int 1))) (Zb (eCB bTuple (Zb (eOp Zu (eOp Zu (Zd 3) (Zd 5)) (Zd 4)) Zj)) Zj)))) Zj)) [some (.im h1),some (.im h2),some (.im (.int (W1:Int))),some (.im (.lst ((lfQ W1 qs1).map fun q=>q.s.d))),some (.im (.lst ((rtQ W1 qs2).map fun q=>q.s.d))),some (.im (.lst ((bwQ W1 H1 qs1 qs2).map fun q=>q.s.d))),v6']) :=
   (fn2 _ _ _ _).trans (congrArg fin' (go (Qc (t _)) (go (Qo (Zg rfl rfl e0)) (go (Qo c1) (go (Qo c2) (go (own_nil 5 _) (go ((Q5 (iR1 (n:=H1) (a1 (Zg rfl rfl e1)) (by lia))).trans lp) rfl)))))))
  have ar:(Zb (Qn (Zb (eOp Zu (Zd 2) (eOp gIx (Zd 1) (eC (.int 0)))) (Zb (eOp gIx (Zd 0) (eC (.int 1))) (Zb (eCB bTuple (Zb (eOp Zu (eOp Zu (Zd 3) (Zd 5)) (Zd 4)) Zj)) Zj)))) Zj) [some (.im h1),some (.im h2),some (.im (.int (W1:Int))),some (.im (.lst ((lfQ W1 qs1).map fun q=>q.s.d))),some (.im (.lst ((rtQ W1 qs2).map fun q=>q.s.d))),some (.im (.lst ((bwQ W1 H1 qs1 qs2).map fun q=>q.s.d))),v6']=.ok [.tup [.int ((W1:Int)+W2),.int (H1:Int),.tup ((lfQ W1 qs1++bwQ W1 H1 qs1 qs2++rtQ W1 qs2).map fun q=>q.s.d)]] :=
   a1 (tup3 (Zg rfl (Zg rfl rfl g0) rfl) (Zg rfl rfl e1) (cb_ok (a1 (Zg (Zg rfl rfl p1) rfl p2)) rfl))
  refine⟨fun d hd=>run.trans (Ql (Z3 (callX_ok ar hd rfl))),fun x hx=>run.trans (fin_ex ?_)⟩
  unfold Qs eCallX
  rw[ar,M.bind_ok,hx]
  rfl
theorem f_joined_no {W1 H1 W2 H2:Nat}{qs1 qs2:List Sq}(hh:H1≠H2):Qv [Zm W1 H1 qs1,Zm W2 H2 qs2]=.ex noHN:=by
 have e1:=hq1 W1 H1 qs1
 have g1:=hq1 W2 H2 qs2
 generalize Zm W1 H1 qs1=h1 at e1 ⊢
 generalize Zm W2 H2 qs2=h2 at g1 ⊢
 have t:DL.tB (eOp gNe (eOp gIx (Zd 0) (eC (.int 1))) (eOp gIx (Zd 1) (eC (.int 1)))) [some (.im h1),some (.im h2),none,none,none,none,none]=.ok true:=by
  refine Qh ((Zg (Zg rfl rfl e1) (Zg rfl rfl g1) (if_pos (by simp[D.dep]))).trans ?_)
  simp only[D.eq]
  congr 3
  rw[Bool.not_eq_true',beq_eq_false_iff_ne]
  lia
 exact(fn2 _ _ _ _).trans (fin_ex (sSeq_ex (Z2 t rfl)))
end Law
set_option maxRecDepth 100000
set_option maxHeartbeats 4000000
set_option linter.all false
namespace Law
open PySem L2 DL
def jnQ (W1:Int)(H:Nat)(qs1 qs2:List Sq):List Sq:=lfQ W1 qs1++bwQ W1 H qs1 qs2++rtQ W1 qs2
theorem isE_iff {x y:Int}{q:Sq}:isE x y q=true↔q.u=true/\q.x=x/\q.y=y:=by
 unfold isE
 rw[Bool.and_eq_true,Bool.and_eq_true,beq_iff_eq,beq_iff_eq,and_assoc]
theorem atL_iff {x:Int}{q:Sq}:atL x q=true↔q.u=true/\q.x=x:=by
 unfold atL
 rw[Bool.and_eq_true,beq_iff_eq]
theorem nat_iff {x:Int}{q:Sq}:nat x q=true↔¬(q.u=true/\q.x=x):=by
 unfold nat
 rw[Bool.not_eq_true',<-Bool.not_eq_true,atL_iff]
theorem e_iff {a b:Sq}:a.e=b.e↔a.u=b.u/\a.x=b.x/\a.y=b.y:=by
 unfold Sq.e
 rw[Prod.mk.injEq,Prod.mk.injEq]
theorem uniq:∀{qs:List Sq} {a b:Sq},(qs.map Sq.e).Nodup->a∈qs->b∈qs->a.e=b.e->a=b
 |c::qs,a,b,hn,ha,hb,h=>by
  rw[List.map_cons,List.nodup_cons] at hn
  rcases List.mem_cons.mp ha with z|ha'
  ·rcases List.mem_cons.mp hb with w|hb'
   ·rw[z,w]
   ·exact(hn.1 (by rw[<-z,h];exact List.mem_map_of_mem hb')).elim
  ·rcases List.mem_cons.mp hb with w|hb'
   ·exact(hn.1 (by rw[<-w,<-h];exact List.mem_map_of_mem ha')).elim
   ·exact uniq hn.2 ha' hb' h
theorem find_of {qs:List Sq}(hn:(qs.map Sq.e).Nodup){q:Sq}(hq:q∈qs){x y:Int}(h:q.u=true/\q.x=x/\q.y=y):qs.find? (isE x y)=some q:=by
 cases e:qs.find? (isE x y) with
 |none=>exact absurd (isE_iff.mpr h) (List.find?_eq_none.mp e q hq)
 |some r =>
  have hr:=isE_iff.mp (List.find?_some e)
  rw[uniq hn (List.mem_of_find?_eq_some e) hq (e_iff.mpr ⟨hr.1.trans h.1.symm,hr.2.1.trans h.2.1.symm,hr.2.2.trans h.2.2.symm⟩)]
theorem find_perm {qs rs:List Sq}(hn:(qs.map Sq.e).Nodup)(p:rs.Perm qs)(x y:Int):rs.find? (isE x y)=qs.find? (isE x y):=by
 have hn':(rs.map Sq.e).Nodup:=(p.map Sq.e).nodup_iff.mpr hn
 cases e:qs.find? (isE x y) with
 |none=>exact List.find?_eq_none.mpr fun q hq=>List.find?_eq_none.mp e q (p.mem_iff.mp hq)
 |some q=>exact find_of hn' (p.mem_iff.mpr (List.mem_of_find?_eq_some e)) (isE_iff.mp (List.find?_some e))
theorem jn_perm {W1:Int}{H:Nat}{qs1 qs2 rs1 rs2:List Sq}(n1:(qs1.map Sq.e).Nodup)(n2:(qs2.map Sq.e).Nodup)(p1:rs1.Perm qs1)(p2:rs2.Perm qs2):(jnQ W1 H rs1 rs2).Perm (jnQ W1 H qs1 qs2):=by
 have eb:bwQ W1 H rs1 rs2=bwQ W1 H qs1 qs2:=by
  unfold bwQ
  refine List.map_congr_left fun y _=>?_
  unfold btQ fcO fcP
  rw[find_perm n1 p1,find_perm n2 p2]
 unfold jnQ
 rw[eb]
 exact((p1.filter _).append_right _).append ((p2.filter _).map _)
theorem fcO_mp {W H:Nat}{qs:List Sq}(g:GoodQ W H qs)(x y:Int):fcO qs x y=cM\/fcO qs x y=cP:=by
 unfold fcO
 split
 ·rename_i q e;exact(g.ok q (List.mem_of_find?_eq_some e)).1
 ·exact .inr rfl
theorem fcP_mp {W H:Nat}{qs:List Sq}(g:GoodQ W H qs)(x y:Int):fcP qs x y=cM\/fcP qs x y=cP:=by
 unfold fcP
 split
 ·rename_i q e;exact(g.ok q (List.mem_of_find?_eq_some e)).2.1
 ·exact .inr rfl
theorem ok_u {W H:Int}{q:Sq}(h:okQ W H q)(hu:q.u=true):0<=q.x/\q.x<=W/\0<=q.y/\q.y<H/\(q.x=0->q.o=cP)/\(q.x=W->q.p=cP):=by
 have:=h.2.2
 rwa[if_pos hu] at this
theorem ok_f {W H:Int}{q:Sq}(h:okQ W H q)(hu:q.u=false):0<=q.x/\q.x<W/\0<=q.y/\q.y<=H/\(q.y=0->q.o=cP)/\(q.y=H->q.p=cP):=by
 have:=h.2.2
 rwa[if_neg (by rw[hu];decide)] at this
theorem mk_u {W H:Int}{q:Sq}(ho:q.o=cM\/q.o=cP)(hp:q.p=cM\/q.p=cP)(hu:q.u=true)(h:0<=q.x/\q.x<=W/\0<=q.y/\q.y<H/\(q.x=0->q.o=cP)/\(q.x=W->q.p=cP)):okQ W H q :=
 ⟨ho,hp,by rw[if_pos hu];exact h⟩
theorem mk_f {W H:Int}{q:Sq}(ho:q.o=cM\/q.o=cP)(hp:q.p=cM\/q.p=cP)(hu:q.u=false)(h:0<=q.x/\q.x<W/\0<=q.y/\q.y<=H/\(q.y=0->q.o=cP)/\(q.y=H->q.p=cP)):okQ W H q :=
 ⟨ho,hp,by rw[if_neg (by rw[hu];decide)];exact h⟩
theorem lf_x {W H:Nat}{qs:List Sq}(g:GoodQ W H qs){q:Sq}(hq:q∈lfQ W qs):q∈qs/\q.x<W:=by
 unfold lfQ at hq
 obtain⟨h1,h2⟩:=List.mem_filter.mp hq
 refine⟨h1,?_⟩
 have h2:=nat_iff.mp h2
 cases hu:q.u with
 |true =>
  have:=ok_u (g.ok q h1) hu
  have n:q.x≠W:=fun e=>h2 ⟨hu,e⟩
  lia
 |false=>exact(ok_f (g.ok q h1) hu).2.1
theorem rt_x {W1:Nat}{W H:Nat}{qs:List Sq}(g:GoodQ W H qs){q:Sq}(hq:q∈rtQ W1 qs):∃r∈qs,q=shQ W1 r/\(r.u=true->1<=r.x)/\0<=r.x:=by
 unfold rtQ at hq
 obtain⟨r,hr,rfl⟩:=List.mem_map.mp hq
 obtain⟨h1,h2⟩:=List.mem_filter.mp hr
 have h2:=nat_iff.mp h2
 cases hu:r.u with
 |true =>
  have:=ok_u (g.ok r h1) hu
  have n:r.x≠0:=fun e=>h2 ⟨hu,e⟩
  exact⟨r,h1,rfl,fun _=>by lia,by lia⟩
 |false=>exact⟨r,h1,rfl,fun h=>(by rw[hu] at h;cases h),(ok_f (g.ok r h1) hu).1⟩
theorem bw_x {W1:Nat}{H:Nat}{qs1 qs2:List Sq}{q:Sq}(hq:q∈bwQ W1 H qs1 qs2):∃y:Nat,y<H/\q=⟨true,W1,y,fcO qs1 W1 y,fcP qs2 0 y⟩:=by
 unfold bwQ at hq
 obtain⟨y,hy,rfl⟩:=List.mem_map.mp hq
 exact⟨y,List.mem_range.mp hy,rfl⟩
theorem jn_mem {W1:Int}{H:Nat}{qs1 qs2:List Sq}{q:Sq}:q∈jnQ W1 H qs1 qs2↔q∈lfQ W1 qs1\/q∈bwQ W1 H qs1 qs2\/q∈rtQ W1 qs2:=by
 unfold jnQ
 rw[List.mem_append,List.mem_append,or_assoc]
theorem jn_good {W1 W2 H:Nat}(hW1:1<=W1)(hW2:1<=W2){qs1 qs2:List Sq}(g1:GoodQ W1 H qs1)(g2:GoodQ W2 H qs2):GoodQ (W1+W2) H (jnQ W1 H qs1 qs2):=by
 refine⟨fun q hq=>?_,?_⟩
 ·rcases jn_mem.mp hq with h|h|h
  ·obtain⟨h1,hx⟩:=lf_x g1 h
   have ok:=g1.ok q h1
   cases hu:q.u with
   |true =>
    obtain⟨a,b,c,d,e,f⟩:=ok_u ok hu
    exact mk_u ok.1 ok.2.1 hu ⟨a,by lia,c,d,e,fun z=>by lia⟩
   |false =>
    obtain⟨a,b,c,d,e,f⟩:=ok_f ok hu
    exact mk_f ok.1 ok.2.1 hu ⟨a,by lia,c,d,e,f⟩
  ·obtain⟨y,hy,rfl⟩:=bw_x h
   refine mk_u (fcO_mp g1 _ _) (fcP_mp g2 _ _) rfl ⟨?_,?_,?_,?_,fun z=>?_,fun z=>?_⟩
   ·dsimp only;lia
   ·dsimp only;lia
   ·dsimp only;lia
   ·dsimp only;lia
   ·dsimp only at z;lia
   ·dsimp only at z;lia
  ·obtain⟨r,h1,rfl,hx,hx0⟩:=rt_x g2 h
   have ok:=g2.ok r h1
   cases hu:r.u with
   |true =>
    obtain⟨a,b,c,d,e,f⟩:=ok_u ok hu
    have:=hx hu
    refine mk_u ok.1 ok.2.1 hu ⟨?_,?_,c,d,fun z=>?_,fun z=>f ?_⟩
    ·show 0<=r.x+W1;lia
    ·show r.x+W1<=_;lia
    ·have z:r.x+W1=0:=z;lia
    ·have z:r.x+W1=((W1+W2:Nat):Int):=z;lia
   |false =>
    obtain⟨a,b,c,d,e,f⟩:=ok_f ok hu
    refine mk_f ok.1 ok.2.1 hu ⟨?_,?_,c,d,e,f⟩
    ·show 0<=r.x+W1;lia
    ·show r.x+W1<_;lia
 ·unfold jnQ
  rw[List.map_append,List.map_append]
  refine List.nodup_append.mpr ⟨List.nodup_append.mpr ⟨?_,?_,?_⟩,?_,?_⟩
  ·exact(List.filter_sublist.map Sq.e).nodup g1.nd
  ·unfold bwQ List.Nodup
   rw[List.map_map,List.pairwise_map]
   refine(List.nodup_range (n:=H)).imp fun {a b} n z=>n ?_
   have:=(e_iff.mp z).2.2
   exact Int.ofNat.inj this
  ·intro a ha b hb z
   obtain⟨q,hq,rfl⟩:=List.mem_map.mp ha
   obtain⟨r,hr,rfl⟩:=List.mem_map.mp hb
   obtain⟨y,hy,rfl⟩:=bw_x hr
   have:=(lf_x g1 hq).2
   have:=(e_iff.mp z).2.1
   dsimp only at this
   lia
  ·unfold rtQ List.Nodup
   rw[List.map_map,List.pairwise_map]
   have:=(List.filter_sublist (p:=nat 0) (l:=qs2)).map Sq.e |>.nodup g2.nd
   unfold List.Nodup at this
   rw[List.pairwise_map] at this
   refine this.imp fun {a b} n z=>n ?_
   have z:=e_iff.mp z
   refine e_iff.mpr ⟨z.1,?_,z.2.2⟩
   have:a.x+W1=b.x+W1:=z.2.1
   lia
  ·intro a ha b hb z
   obtain⟨r,hr,rfl⟩:=List.mem_map.mp hb
   obtain⟨r,h1,rfl,hx,hx0⟩:=rt_x g2 hr
   rcases List.mem_append.mp ha with ha|ha
   ·obtain⟨q,hq,rfl⟩:=List.mem_map.mp ha
    have:=(lf_x g1 hq).2
    have:q.x=r.x+W1:=(e_iff.mp z).2.1
    lia
   ·obtain⟨q,hq,rfl⟩:=List.mem_map.mp ha
    obtain⟨y,hy,rfl⟩:=bw_x hq
    have z:=e_iff.mp z
    have:true=r.u:=z.1
    have:=hx this.symm
    have:(W1:Int)=r.x+W1:=z.2.1
    lia
theorem jn_len {W1:Int}{H:Nat}{qs1 qs2:List Sq}:(jnQ W1 H qs1 qs2).length<=qs1.length+H+qs2.length:=by
 unfold jnQ lfQ bwQ rtQ
 rw[List.length_append,List.length_append,List.length_map,List.length_map,List.length_range]
 have:=List.length_filter_le (nat W1) qs1
 have:=List.length_filter_le (nat 0) qs2
 lia
def cl1 (k:Int)(q:Sq):Option Sq:=if atL k q then some ⟨true,k,q.y,q.o,cP⟩ else if q.x<k then some q else none
def cr1 (k:Int)(q:Sq):Option Sq:=if atL k q then some ⟨true,0,q.y,cP,q.p⟩ else if q.x<k then none else some (shQ (-k) q)
def clQ (k:Int)(qs:List Sq):List Sq:=qs.filterMap (cl1 k)
def crQ (k:Int)(qs:List Sq):List Sq:=qs.filterMap (cr1 k)
theorem cl1_of {k:Int}{q r:Sq}(h:cl1 k q=some r):(q.u=true/\q.x=k/\r=⟨true,k,q.y,q.o,cP⟩)\/(¬(q.u=true/\q.x=k)/\q.x<k/\r=q):=by
 unfold cl1 at h
 split at h
 ·rename_i a
  have a:=atL_iff.mp a
  exact .inl ⟨a.1,a.2,by injection h with h;exact h.symm⟩
 ·rename_i a
  split at h
  ·rename_i b
   exact .inr ⟨fun z=>a (atL_iff.mpr z),b,by injection h with h;exact h.symm⟩
  ·cases h
theorem cr1_of {k:Int}{q r:Sq}(h:cr1 k q=some r):(q.u=true/\q.x=k/\r=⟨true,0,q.y,cP,q.p⟩)\/(¬(q.u=true/\q.x=k)/\k<=q.x/\r=shQ (-k) q):=by
 unfold cr1 at h
 split at h
 ·rename_i a
  have a:=atL_iff.mp a
  exact .inl ⟨a.1,a.2,by injection h with h;exact h.symm⟩
 ·rename_i a
  split at h
  ·cases h
  ·rename_i b
   exact .inr ⟨fun z=>a (atL_iff.mpr z),by lia,by injection h with h;exact h.symm⟩
theorem cl_good {W H:Nat}{qs:List Sq}(g:GoodQ W H qs){k:Nat}(h1:1<=k)(h2:k<W):GoodQ k H (clQ k qs):=by
 refine⟨fun r hr=>?_,?_⟩
 ·obtain⟨q,hq,e⟩:=List.mem_filterMap.mp hr
  have ok:=g.ok q hq
  rcases cl1_of e with⟨hu,hx,rfl⟩|⟨hn,hx,rfl⟩
  ·obtain⟨a,b,c,d,e,f⟩:=ok_u ok hu
   refine mk_u ok.1 (.inr rfl) rfl ⟨?_,?_,c,d,fun z=>?_,fun _=>rfl⟩
   ·dsimp only;lia
   ·dsimp only;lia
   ·dsimp only at z;lia
  ·cases hu:r.u with
   |true =>
    obtain⟨a,b,c,d,e,f⟩:=ok_u ok hu
    exact mk_u ok.1 ok.2.1 hu ⟨a,by lia,c,d,e,fun z=>by lia⟩
   |false =>
    obtain⟨a,b,c,d,e,f⟩:=ok_f ok hu
    exact mk_f ok.1 ok.2.1 hu ⟨a,by lia,c,d,e,f⟩
 ·have nd:=g.nd
  unfold List.Nodup at nd ⊢
  rw[List.pairwise_map] at nd ⊢
  unfold clQ
  rw[List.pairwise_filterMap]
  refine nd.imp fun {a b} n a' ha b' hb z=>n ?_
  have e1:a'.e=a.e:=by
   rcases cl1_of ha with⟨hu,hx,rfl⟩|⟨hn,hx,rfl⟩
   ·exact e_iff.mpr ⟨hu.symm,hx.symm,rfl⟩
   ·rfl
  have e2:b'.e=b.e:=by
   rcases cl1_of hb with⟨hu,hx,rfl⟩|⟨hn,hx,rfl⟩
   ·exact e_iff.mpr ⟨hu.symm,hx.symm,rfl⟩
   ·rfl
  rw[<-e1,<-e2,z]
theorem cr_good {W H:Nat}{qs:List Sq}(g:GoodQ W H qs){k:Nat}(h1:1<=k)(h2:k<W):GoodQ (W - k) H (crQ k qs):=by
 refine⟨fun r hr=>?_,?_⟩
 ·obtain⟨q,hq,e⟩:=List.mem_filterMap.mp hr
  have ok:=g.ok q hq
  rcases cr1_of e with⟨hu,hx,rfl⟩|⟨hn,hx,rfl⟩
  ·obtain⟨a,b,c,d,e,f⟩:=ok_u ok hu
   refine mk_u (.inr rfl) ok.2.1 rfl ⟨Int.le_refl 0,?_,c,d,fun _=>rfl,fun z=>?_⟩
   ·dsimp only;lia
   ·dsimp only at z;lia
  ·cases hu:q.u with
   |true =>
    obtain⟨a,b,c,d,e,f⟩:=ok_u ok hu
    have hn:q.x≠k:=fun z=>hn ⟨hu,z⟩
    refine mk_u ok.1 ok.2.1 hu ⟨?_,?_,c,d,fun z=>?_,fun z=>f ?_⟩
    ·show 0<=q.x + -(k:Int);lia
    ·show q.x + -(k:Int)<=_;lia
    ·have z:q.x + -(k:Int)=0:=z;lia
    ·have z:q.x + -(k:Int)=((W - k:Nat):Int):=z;lia
   |false =>
    obtain⟨a,b,c,d,e,f⟩:=ok_f ok hu
    refine mk_f ok.1 ok.2.1 hu ⟨?_,?_,c,d,e,f⟩
    ·show 0<=q.x + -(k:Int);lia
    ·show q.x + -(k:Int)<_;lia
 ·have nd:=g.nd
  unfold List.Nodup at nd ⊢
  rw[List.pairwise_map] at nd ⊢
  unfold crQ
  rw[List.pairwise_filterMap]
  have key:∀{a a':Sq},cr1 k a=some a'->a'.u=a.u/\a'.x=a.x + -(k:Int)/\a'.y=a.y:=fun {a a'} ha=>by
   rcases cr1_of ha with⟨hu,hx,rfl⟩|⟨hn,hx,rfl⟩
   ·exact⟨hu.symm,by dsimp only;lia,rfl⟩
   ·exact⟨rfl,rfl,rfl⟩
  refine nd.imp fun {a b} n a' ha b' hb z=>n ?_
  have e1:=key ha
  have e2:=key hb
  have z:=e_iff.mp z
  exact e_iff.mpr ⟨e1.1.symm.trans (z.1.trans e2.1),by lia,e1.2.2.symm.trans (z.2.2.trans e2.2.2)⟩
theorem cl_len (k:Int)(qs:List Sq):(clQ k qs).length<=qs.length:=List.length_filterMap_le _ _
theorem cr_len (k:Int)(qs:List Sq):(crQ k qs).length<=qs.length:=List.length_filterMap_le _ _
end Law
set_option maxRecDepth 100000
set_option maxHeartbeats 4000000
set_option linter.all false
namespace Law
open PySem L2 DL
theorem get_put {κ:Type}[DecidableEq κ](kvs:List (κ×D))(k j:κ)(d:D):Qq (putD kvs k d) j=if k=j then some d else Qq kvs j:=by
 unfold putD
 by_cases h:(kvs.any fun kv=>decide (kv.1=k))=true
 ·rw[if_pos h]
  induction kvs with
  |nil=>cases h
  |cons a r ih =>
   rw[List.map_cons]
   by_cases ha:a.1=k
   ·rw[if_pos ha]
    by_cases hj:k=j
    ·rw[if_pos hj]
     unfold Qq
     rw[List.find?_cons_of_pos (by rw[decide_eq_true_eq];dsimp only;rw[ha,hj])]
     rfl
    ·rw[if_neg hj]
     have hr:Qq (r.map fun kv=>if kv.1=k then(kv.1,d) else kv) j=Qq r j:=by
      clear ih h
      induction r with
      |nil=>rfl
      |cons b r ih =>
       unfold Qq at ih ⊢
       rw[List.map_cons]
       by_cases hb:b.1=k
       ·rw[if_pos hb,List.find?_cons_of_neg (by rw[decide_eq_true_eq];dsimp only;rw[hb];exact hj),List.find?_cons_of_neg (by rw[decide_eq_true_eq,hb];exact hj)]
        exact ih
       ·rw[if_neg hb]
        by_cases hc:b.1=j
        ·rw[List.find?_cons_of_pos (by rw[decide_eq_true_eq];exact hc),List.find?_cons_of_pos (by rw[decide_eq_true_eq];exact hc)]
        ·rw[List.find?_cons_of_neg (by rw[decide_eq_true_eq];exact hc),List.find?_cons_of_neg (by rw[decide_eq_true_eq];exact hc)]
         exact ih
     unfold Qq at hr ⊢
     rw[List.find?_cons_of_neg (by rw[decide_eq_true_eq];dsimp only;rw[ha];exact hj),List.find?_cons_of_neg (by rw[decide_eq_true_eq,ha];exact hj)]
     exact hr
   ·rw[if_neg ha]
    rw[List.any_cons,decide_eq_false ha,Bool.false_or] at h
    have ih:=ih h
    unfold Qq at ih ⊢
    by_cases hc:a.1=j
    ·have:¬k=j:=fun e=>ha (hc.trans e.symm)
     rw[if_neg this,List.find?_cons_of_pos (by rw[decide_eq_true_eq];exact hc),List.find?_cons_of_pos (by rw[decide_eq_true_eq];exact hc)]
    ·rw[List.find?_cons_of_neg (by rw[decide_eq_true_eq];exact hc),List.find?_cons_of_neg (by rw[decide_eq_true_eq];exact hc)]
     exact ih
 ·rw[if_neg h]
  unfold Qq
  rw[List.find?_append]
  by_cases hj:k=j
  ·rw[if_pos hj]
   have:kvs.find? (fun kv=>decide (kv.1=j))=none:=List.find?_eq_none.mpr fun a ha z=>h (List.any_eq_true.mpr ⟨a,ha,by rw[hj];exact z⟩)
   rw[this]
   simp[hj]
  ·rw[if_neg hj]
   simp[hj]
abbrev KV:=List (Key×D)
def fo (v:Sq->D)(kvs:KV)(q:Sq):KV:=putD kvs (.inl q.y) (v q)
def fos (v:Sq->D)(x:Int)(kvs:KV)(qs:List Sq):KV:=(qs.filter (atL x)).foldl (fo v) kvs
theorem fos_get (v:Sq->D)(x y:Int):∀(qs:List Sq) (kvs:KV),(qs.map Sq.e).Nodup->Qq (fos v x kvs qs) (Sum.inl y)=(match qs.find? (isE x y) with
 |some q=>some (v q)
 |none=>Qq kvs (Sum.inl y))
 |[],kvs,_=>rfl
 |q::qs,kvs,hn=>by
  rw[List.map_cons,List.nodup_cons] at hn
  by_cases ha:atL x q=true
  ·have e:fos v x kvs (q::qs)=fos v x (fo v kvs q) qs:=by
    unfold fos
    rw[List.filter_cons_of_pos ha]
    rfl
   rw[e,fos_get v x y qs _ hn.2]
   have hq:=atL_iff.mp ha
   by_cases hy:q.y=y
   ·have hi:isE x y q=true:=isE_iff.mpr ⟨hq.1,hq.2,hy⟩
    have nn:qs.find? (isE x y)=none:=List.find?_eq_none.mpr fun r hr z=>by
     have z:=isE_iff.mp z
     exact hn.1 (by rw[show q.e=r.e from e_iff.mpr ⟨hq.1.trans z.1.symm,hq.2.trans z.2.1.symm,hy.trans z.2.2.symm⟩];exact List.mem_map_of_mem hr)
    rw[nn,List.find?_cons_of_pos hi]
    unfold fo
    dsimp only
    rw[get_put,if_pos (by rw[hy])]
   ·rw[List.find?_cons_of_neg (fun z=>hy (isE_iff.mp z).2.2)]
    have:Qq (fo v kvs q) (Sum.inl y)=Qq kvs (Sum.inl y):=by
     unfold fo
     rw[get_put,if_neg (fun z=>hy (Sum.inl.inj z))]
    rw[this]
  ·have e:fos v x kvs (q::qs)=fos v x kvs qs:=by
    unfold fos
    rw[List.filter_cons_of_neg ha]
   rw[e,fos_get v x y qs _ hn.2,List.find?_cons_of_neg (fun z=>ha (atL_iff.mpr ⟨(isE_iff.mp z).1,(isE_iff.mp z).2.1⟩))]
theorem put_len {κ:Type}[DecidableEq κ](kvs:List (κ×D))(k:κ)(d:D):(putD kvs k d).length<=kvs.length+1:=by
 unfold putD
 split
 ·rw[List.length_map];lia
 ·rw[List.length_append];simp
theorem put_st {i:Nat}{fk fv:DSt->M D}{sd:DSt}{kvs:KV}{y:Int}{d:D}(h:sd[i]?=some (some (.dk kvs)))(hk:fk sd=.ok (.int y))(hv:fv sd=.ok d)(hl:kvs.length<=1000):DL.sDPut i fk fv sd=.ok (.nx (sd.set i (some (.dk (putD kvs (.inl y) d))))):=by
 unfold DL.sDPut
 rw[h,hk,hv]
 show((M.ok d).bind fun v=>(M.ok (D.int y)).bind fun k=>match dput (some (some (S.dk kvs))) k v with
  |some t=>M.ok (O.nx (sd.set i (some t)))
  |none=>M.bad)=_
 rw[M.bind_ok,M.bind_ok]
 have:dput (some (some (S.dk kvs))) (.int y) d=some (.dk (putD kvs (.inl y) d)):=by
  show(if kvs.length<=1000000 then some (S.dk (putD kvs (.inl y) d)) else none)=_
  rw[if_pos (by lia)]
 rw[this]
theorem get_st {i:Nat}{fk fd:DSt->M D}{sd:DSt}{kvs:KV}{y:Int}{d:D}(h:sd[i]?=some (some (.dk kvs)))(hk:fk sd=.ok (.int y))(hd:fd sd=.ok d):eDGetD i fk fd sd=.ok ((Qq kvs (Sum.inl y)).getD d):=by
 unfold eDGetD
 rw[h,hk,hd]
 show((M.ok (D.int y)).bind fun k=>(M.ok d).bind fun d=>match dget (some (some (S.dk kvs))) k with
  |some (some v)=>M.ok v
  |some none=>M.ok d
  |none=>M.bad)=_
 rw[M.bind_ok,M.bind_ok]
 have:dget (some (some (S.dk kvs))) (.int y)=some (Qq kvs (Sum.inl y)):=rfl
 rw[this]
 cases Qq kvs (Sum.inl y)<;>rfl
noncomputable def lj1:DSt->M O:=(sIf (DL.tA (DL.tB (eOp gEq (Zd 5) (eC (.str kUp)))) (DL.tB (eOp gEq (Zd 6) (eOp gIx (Zd 0) (eC (.int 0)))))) (DL.sDPut 3 (Zd 7) (Zd 8)) (Yx 2 (Qn (Zb (Zd 5) (Zb (Zd 6) (Zb (Zd 7) (Zb (Zd 8) (Zb (Zd 9) Zj))))))))
noncomputable def lj2:DSt->M O:=(sIf (DL.tA (DL.tB (eOp gEq (Zd 5) (eC (.str kUp)))) (DL.tB (eOp gEq (Zd 6) (eC (.int 0))))) (DL.sDPut 4 (Zd 7) (Zd 9)) (Yx 2 (Qn (Zb (Zd 5) (Zb (eOp Zu (Zd 6) (eOp gIx (Zd 0) (eC (.int 0)))) (Zb (Zd 7) (Zb (Zd 8) (Zb (Zd 9) Zj))))))))
noncomputable def lj3:DSt->M O:=(Yx 2 (Qn (Zb (eC (.str kUp)) (Zb (eOp gIx (Zd 0) (eC (.int 0))) (Zb (Zd 7) (Zb (eDGetD 3 (Zd 7) (eC (.str cP))) (Zb (eDGetD 4 (Zd 7) (eC (.str cP))) Zj)))))))
abbrev g5:D->DSt->M DSt:=(gTupD 5 (Qa (gNm 5) (Qa (gNm 6) (Qa (gNm 7) (Qa (gNm 8) (Qa (gNm 9) gsNil))))))
def vO (q:Sq):D:=.str q.o
def vP (q:Sq):D:=.str q.p
theorem fos_t {v:Sq->D}{x:Int}{kvs:KV}{q:Sq}{qs:List Sq}(h:atL x q=true):fos v x kvs (q::qs)=fos v x (putD kvs (.inl q.y) (v q)) qs:=by
 unfold fos
 rw[List.filter_cons_of_pos h]
 rfl
theorem fos_f {v:Sq->D}{x:Int}{kvs:KV}{q:Sq}{qs:List Sq}(h:atL x q=false):fos v x kvs (q::qs)=fos v x kvs qs:=by
 unfold fos
 rw[List.filter_cons_of_neg (by rw[h];decide)]
theorem lj1_loop {h1:D}{x:Int}(e0:gIx h1 (.int 0)=.ok (.int x))(v1 v4:Option S):∀(qs rs:List Sq) (kvs:KV) (v5 v6 v7 v8 v9:Option S),rs.length+qs.length<=900->kvs.length+qs.length<=900->∃w5 w6 w7 w8 w9,
  Q0 g5 lj1 (qs.map fun q=>q.s.d) [some (.im h1),v1,some (.ow (rs.map fun q=>q.s.d)),some (.dk kvs),v4,v5,v6,v7,v8,v9]=.ok (.nx [some (.im h1),v1,some (.ow ((rs++lfQ x qs).map fun q=>q.s.d)),some (.dk (fos vO x kvs qs)),v4,w5,w6,w7,w8,w9])
 |[],rs,kvs,v5,v6,v7,v8,v9,_,_=>⟨v5,v6,v7,v8,v9,by unfold lfQ fos;simp only[List.map_nil,List.filter_nil,List.append_nil,List.foldl_nil];rfl⟩
 |q::qs,rs,kvs,v5,v6,v7,v8,v9,hl,hk=>by
  rw[List.length_cons] at hl hk
  have t:DL.tA (DL.tB (eOp gEq (Zd 5) (eC (.str kUp)))) (DL.tB (eOp gEq (Zd 6) (eOp gIx (Zd 0) (eC (.int 0))))) [some (.im h1),v1,some (.ow (rs.map fun q=>q.s.d)),some (.dk kvs),v4,some (.im (.str (kd q.u))),some (.im (.int q.x)),some (.im (.int q.y)),some (.im (.str q.o)),some (.im (.str q.p))]=.ok (atL x q) :=
   tA_b (Qh (Zg rfl rfl (kd_eq q.u))) (Qh (Zg rfl (Zg rfl rfl e0) (eq_int _ _)))
  rw[List.map_cons]
  cases a:atL x q with
  |true =>
   rw[a] at t
   have hk2:=put_len kvs (Sum.inl q.y) (vO q)
   obtain⟨w5,w6,w7,w8,w9,e⟩:=lj1_loop e0 v1 v4 qs rs (putD kvs (.inl q.y) (vO q)) (some (.im (.str (kd q.u)))) (some (.im (.int q.x))) (some (.im (.int q.y))) (some (.im (.str q.o))) (some (.im (.str q.p))) (by lia) (by lia)
   refine⟨w5,w6,w7,w8,w9,?_⟩
   rw[fos_t a,show lfQ x (q::qs)=lfQ x qs from List.filter_cons_of_neg (by unfold nat;rw[a];decide)]
   refine(Yv (sd1:=[some (.im h1),v1,some (.ow (rs.map fun q=>q.s.d)),some (.dk kvs),v4,some (.im (.str (kd q.u))),some (.im (.int q.x)),some (.im (.int q.y)),some (.im (.str q.o)),some (.im (.str q.p))]) rfl ?_).trans e
   exact Z2 t (put_st (kvs:=kvs) (y:=q.y) (d:=vO q) rfl rfl rfl (by lia))
  |false =>
   rw[a] at t
   obtain⟨w5,w6,w7,w8,w9,e⟩:=lj1_loop e0 v1 v4 qs (rs++[q]) kvs (some (.im (.str (kd q.u)))) (some (.im (.int q.x))) (some (.im (.int q.y))) (some (.im (.str q.o))) (some (.im (.str q.p))) (by rw[List.length_append,List.length_singleton];lia) (by lia)
   refine⟨w5,w6,w7,w8,w9,?_⟩
   rw[fos_f a,show lfQ x (q::qs)=q::lfQ x qs from List.filter_cons_of_pos (by unfold nat;rw[a];decide)]
   rw[List.append_assoc,List.singleton_append] at e
   refine(Yv (sd1:=[some (.im h1),v1,some (.ow (rs.map fun q=>q.s.d)),some (.dk kvs),v4,some (.im (.str (kd q.u))),some (.im (.int q.x)),some (.im (.int q.y)),some (.im (.str q.o)),some (.im (.str q.p))]) rfl (if_else t ((app_ok (ds:=rs.map fun q=>q.s.d) (d:=q.s.d) rfl (tup5 rfl rfl rfl rfl rfl) (by rw[List.length_map];lia)).trans ?_))).trans e
   rw[List.map_append]
   rfl
theorem lj2_loop {h1:D}{x:Int}(e0:gIx h1 (.int 0)=.ok (.int x))(v1 v3:Option S):∀(qs rs:List Sq) (kvs:KV) (v5 v6 v7 v8 v9:Option S),rs.length+qs.length<=900->kvs.length+qs.length<=900->∃w5 w6 w7 w8 w9,
  Q0 g5 lj2 (qs.map fun q=>q.s.d) [some (.im h1),v1,some (.ow (rs.map fun q=>q.s.d)),v3,some (.dk kvs),v5,v6,v7,v8,v9]=.ok (.nx [some (.im h1),v1,some (.ow ((rs++rtQ x qs).map fun q=>q.s.d)),v3,some (.dk (fos vP 0 kvs qs)),w5,w6,w7,w8,w9])
 |[],rs,kvs,v5,v6,v7,v8,v9,_,_=>⟨v5,v6,v7,v8,v9,by unfold rtQ fos;simp only[List.map_nil,List.filter_nil,List.append_nil,List.foldl_nil];rfl⟩
 |q::qs,rs,kvs,v5,v6,v7,v8,v9,hl,hk=>by
  rw[List.length_cons] at hl hk
  have t:DL.tA (DL.tB (eOp gEq (Zd 5) (eC (.str kUp)))) (DL.tB (eOp gEq (Zd 6) (eC (.int 0)))) [some (.im h1),v1,some (.ow (rs.map fun q=>q.s.d)),v3,some (.dk kvs),some (.im (.str (kd q.u))),some (.im (.int q.x)),some (.im (.int q.y)),some (.im (.str q.o)),some (.im (.str q.p))]=.ok (atL 0 q) :=
   tA_b (Qh (Zg rfl rfl (kd_eq q.u))) (Qh (Zg rfl rfl (eq_int _ _)))
  rw[List.map_cons]
  cases a:atL 0 q with
  |true =>
   rw[a] at t
   have hk2:=put_len kvs (Sum.inl q.y) (vP q)
   obtain⟨w5,w6,w7,w8,w9,e⟩:=lj2_loop e0 v1 v3 qs rs (putD kvs (.inl q.y) (vP q)) (some (.im (.str (kd q.u)))) (some (.im (.int q.x))) (some (.im (.int q.y))) (some (.im (.str q.o))) (some (.im (.str q.p))) (by lia) (by lia)
   refine⟨w5,w6,w7,w8,w9,?_⟩
   rw[fos_t a,show rtQ x (q::qs)=rtQ x qs by unfold rtQ;rw[List.filter_cons_of_neg (by unfold nat;rw[a];decide)]]
   refine(Yv (sd1:=[some (.im h1),v1,some (.ow (rs.map fun q=>q.s.d)),v3,some (.dk kvs),some (.im (.str (kd q.u))),some (.im (.int q.x)),some (.im (.int q.y)),some (.im (.str q.o)),some (.im (.str q.p))]) rfl ?_).trans e
   exact Z2 t (put_st (kvs:=kvs) (y:=q.y) (d:=vP q) rfl rfl rfl (by lia))
  |false =>
   rw[a] at t
   obtain⟨w5,w6,w7,w8,w9,e⟩:=lj2_loop e0 v1 v3 qs (rs++[shQ x q]) kvs (some (.im (.str (kd q.u)))) (some (.im (.int q.x))) (some (.im (.int q.y))) (some (.im (.str q.o))) (some (.im (.str q.p))) (by rw[List.length_append,List.length_singleton];lia) (by lia)
   refine⟨w5,w6,w7,w8,w9,?_⟩
   rw[fos_f a,show rtQ x (q::qs)=shQ x q::rtQ x qs by unfold rtQ;rw[List.filter_cons_of_pos (by unfold nat;rw[a];decide),List.map_cons]]
   rw[List.append_assoc,List.singleton_append] at e
   refine(Yv (sd1:=[some (.im h1),v1,some (.ow (rs.map fun q=>q.s.d)),v3,some (.dk kvs),some (.im (.str (kd q.u))),some (.im (.int q.x)),some (.im (.int q.y)),some (.im (.str q.o)),some (.im (.str q.p))]) rfl (if_else t ((app_ok (ds:=rs.map fun q=>q.s.d) (d:=(shQ x q).s.d) rfl (tup5 rfl (Zg rfl (Zg rfl rfl e0) rfl) rfl rfl rfl) (by rw[List.length_map];lia)).trans ?_))).trans e
   rw[List.map_append]
   rfl
theorem lj3_loop {h1:D}{x:Int}(e0:gIx h1 (.int 0)=.ok (.int x)){qs1 qs2:List Sq}(n1:(qs1.map Sq.e).Nodup)(n2:(qs2.map Sq.e).Nodup)(v1 v5 v6 v8 v9:Option S):∀(ys:List Nat) (rs:List Sq) (v7:Option S),rs.length+ys.length<=900->∃w7,
  Q0 (gNm 7) lj3 (ys.map fun(y:Nat)=>D.int (y:Int)) [some (.im h1),v1,some (.ow (rs.map fun q=>q.s.d)),some (.dk (fos vO x [] qs1)),some (.dk (fos vP 0 [] qs2)),v5,v6,v7,v8,v9]=.ok (.nx [some (.im h1),v1,some (.ow ((rs++ys.map (btQ x qs1 qs2)).map fun q=>q.s.d)),some (.dk (fos vO x [] qs1)),some (.dk (fos vP 0 [] qs2)),v5,v6,w7,v8,v9])
 |[],rs,v7,_=>⟨v7,by simp only[List.map_nil,List.append_nil];rfl⟩
 |y::ys,rs,v7,hl=>by
  rw[List.length_cons] at hl
  obtain⟨w7,e⟩:=lj3_loop e0 n1 n2 v1 v5 v6 v8 v9 ys (rs++[btQ x qs1 qs2 y]) (some (.im (.int (y:Int)))) (by rw[List.length_append,List.length_singleton];lia)
  refine⟨w7,?_⟩
  rw[List.map_cons,List.map_cons]
  rw[List.append_assoc,List.singleton_append] at e
  have go1:(Qq (fos vO x [] qs1) (Sum.inl (y:Int))).getD (.str cP)=.str (fcO qs1 x y):=by
   rw[fos_get vO x y qs1 [] n1]
   unfold fcO
   cases qs1.find? (isE x y)<;>rfl
  have go2:(Qq (fos vP 0 [] qs2) (Sum.inl (y:Int))).getD (.str cP)=.str (fcP qs2 0 y):=by
   rw[fos_get vP 0 y qs2 [] n2]
   unfold fcP
   cases qs2.find? (isE 0 y)<;>rfl
  refine(Yv (sd1:=[some (.im h1),v1,some (.ow (rs.map fun q=>q.s.d)),some (.dk (fos vO x [] qs1)),some (.dk (fos vP 0 [] qs2)),v5,v6,some (.im (.int (y:Int))),v8,v9]) rfl ((app_ok (ds:=rs.map fun q=>q.s.d) (d:=(btQ x qs1 qs2 y).s.d) rfl (tup5 rfl (Zg rfl rfl e0) rfl ((get_st (kvs:=fos vO x [] qs1) (y:=(y:Int)) (d:=.str cP) rfl rfl rfl).trans (by rw[go1];rfl)) ((get_st (kvs:=fos vP 0 [] qs2) (y:=(y:Int)) (d:=.str cP) rfl rfl rfl).trans (by rw[go2];rfl))) (by rw[List.length_map];lia)).trans ?_)).trans e
  rw[List.map_append]
  rfl
theorem f_sorted {W H:Nat}{qs:List Sq}(g:GoodQ W H qs)(hl:qs.length<=1000):Y5 [.int (W:Int),.int (H:Int),.lst (qs.map fun q=>q.s.d)]=.ok (.im (Xg W H (srtQ qs))):=by
 refine(fn3 _ _ _ _ _).trans (Ql (Z3 ?_))
 unfold Xg srtQ
 rw[srt_d]
 refine tup3 rfl rfl (cb_ok (a1 (d:=.lst (Q6 ((qs.map Sq.s).map Sd.d))) (cb_ok (a1 (d:=.lst ((qs.map Sq.s).map Sd.d)) (by rw[List.map_map];rfl)) ?_)) rfl)
 show sortGD ((qs.map Sq.s).map Sd.d)=_
 unfold sortGD
 rw[few_of (by rw[List.length_map,List.length_map];lia),sides_cond g.good.ok]
 rfl
end Law
set_option maxRecDepth 100000
set_option maxHeartbeats 4000000
set_option linter.all false
namespace Law
open PySem L2 DL
def jOK (W1 H1 W2 H2:Nat):Bool:=decide (H1=H2)&&decide (W1+W2<=8)
theorem ne_int (a b:Int):gNe (.int a) (.int b)=.ok (.bl (!(a==b))):=by
 unfold gNe
 rw[if_pos (by simp[D.dep])]
 simp only[D.eq]
theorem f_ljoined {W1 H1 W2 H2:Nat}{qs1 qs2:List Sq}(h1:HQ W1 H1 qs1)(h2:HQ W2 H2 qs2)(l1:qs1.length<=300)(l2:qs2.length<=300) :
  F_l_joined [Zm W1 H1 qs1,Zm W2 H2 qs2]=.ok (.im (if jOK W1 H1 W2 H2 then Xg (W1+W2) H1 (srtQ (jnQ W1 H1 qs1 qs2)) else .non)):=by
 have e0:=hq0 W1 H1 qs1
 have e1:=hq1 W1 H1 qs1
 have e2:=hq2 W1 H1 qs1
 have g0:=hq0 W2 H2 qs2
 have g1:=hq1 W2 H2 qs2
 have g2:=hq2 W2 H2 qs2
 generalize Zm W1 H1 qs1=a at e0 e1 e2 ⊢
 generalize Zm W2 H2 qs2=b at g0 g1 g2 ⊢
 have t:DL.tO (DL.tB (eOp gNe (eOp gIx (Zd 0) (eC (.int 1))) (eOp gIx (Zd 1) (eC (.int 1))))) (DL.tB (eOp gGt (eOp Zu (eOp gIx (Zd 0) (eC (.int 0))) (eOp gIx (Zd 1) (eC (.int 0)))) (eC (.int 8)))) ([some (S.im a),some (S.im b)]++List.replicate 8 none)=.ok (!jOK W1 H1 W2 H2):=by
  refine(tO_b (Qh (Zg (Zg rfl rfl e1) (Zg rfl rfl g1) (ne_int _ _))) (Qh (Zg (Zg (Zg rfl rfl e0) (Zg rfl rfl g0) (show _=M.ok (D.int ((W1:Int)+W2)) from rfl)) rfl (show _=M.ok (D.bl (decide ((W1:Int)+W2 > 8))) from rfl)))).trans ?_
  congr 1
  unfold jOK
  rw[Bool.eq_iff_iff]
  simp only[Bool.or_eq_true,Bool.not_eq_true',beq_eq_false_iff_ne,decide_eq_true_eq,Bool.and_eq_false_iff,decide_eq_false_iff_not]
  lia
 cases j:jOK W1 H1 W2 H2 with
 |false =>
  rw[j] at t
  rw[if_neg (by decide)]
  exact(fn2 _ _ _ _).trans (Ql (Q4 (Z2 t (Z3 rfl))))
 |true =>
  rw[j] at t
  rw[if_pos rfl]
  unfold jOK at j
  rw[Bool.and_eq_true,decide_eq_true_eq,decide_eq_true_eq] at j
  obtain⟨rfl,hw⟩:=j
  have lf:(lfQ (W1:Int) qs1).length<=300:=Nat.le_trans (List.length_filter_le _ _) l1
  have lr:(rtQ (W1:Int) qs2).length<=300:=by unfold rtQ;rw[List.length_map];exact Nat.le_trans (List.length_filter_le _ _) l2
  obtain⟨u5,u6,u7,u8,u9,p1⟩:=lj1_loop e0 (some (.im b)) (some (.dk [])) qs1 [] [] none none none none none (by simp;lia) (by simp;lia)
  obtain⟨w5,w6,w7,w8,w9,p2⟩:=lj2_loop e0 (some (.im b)) (some (.dk (fos vO W1 [] qs1))) qs2 ([]++lfQ W1 qs1) [] u5 u6 u7 u8 u9 (by simp;lia) (by simp;lia)
  have h82:=h1.h2
  obtain⟨x7,p3⟩:=lj3_loop e0 h1.g.nd h2.g.nd (some (.im b)) w5 w6 w8 w9 (List.range H1) ([]++lfQ W1 qs1++rtQ W1 qs2) w7 (by simp;lia)
  have pm:([]++lfQ (W1:Int) qs1++rtQ (W1:Int) qs2++(List.range H1).map (btQ W1 qs1 qs2)).Perm (jnQ W1 H1 qs1 qs2):=by
   unfold jnQ bwQ
   rw[List.nil_append,List.append_assoc,List.append_assoc]
   exact List.Perm.append_left _ List.perm_append_comm
  have gd:=jn_good h1.w1 h2.w1 h1.g h2.g
  have jl:=jn_len (W1:=(W1:Int)) (H:=H1) (qs1:=qs1) (qs2:=qs2)
  generalize hL:[]++lfQ (W1:Int) qs1++rtQ (W1:Int) qs2++(List.range H1).map (btQ W1 qs1 qs2)=L at p3 pm
  have gL:GoodQ (W1+W2) H1 L:=⟨fun q hq=>gd.ok q (pm.mem_iff.mp hq),(pm.map Sq.e).nodup_iff.mpr gd.nd⟩
  have fs:=f_sorted gL (by rw[pm.length_eq];lia)
  rw[sort_perm pm] at fs
  refine(fn2 _ _ _ _).trans (Ql (go (Qc t) (go (own_nil 2 _) (go rfl (go rfl (go ((Q5 (seq_t (Zg rfl rfl e2))).trans p1) (go ((Q5 (seq_t (Zg rfl rfl g2))).trans p2) (go ((Q5 (iR1 (n:=H1) (a1 (Zg rfl rfl e1)) (by lia))).trans p3) (Z3 (Zv (aC (Zg (Zg rfl rfl e0) (Zg rfl rfl g0) (show _=M.ok (D.int (((W1+W2:Nat)):Int)) from by rw[show((W1+W2:Nat):Int)=(W1:Int)+W2 by lia];rfl)) (aC (Zg rfl rfl e1) (a1 rfl))) fs rfl))))))))))
theorem f_joinedP {W1 H1 W2 H2:Nat}{qs1 qs2:List Sq}(h1:HQ W1 H1 qs1)(h2:HQ W2 H2 qs2)(l1:qs1.length<=300)(l2:qs2.length<=300) :
  (jOK W1 H1 W2 H2=true->Qv [Zm W1 H1 qs1,Zm W2 H2 qs2]=.ok (.im (Xg (W1+W2) H1 (srtQ (jnQ W1 H1 qs1 qs2))))) /\
  (jOK W1 H1 W2 H2=false->Qv [Zm W1 H1 qs1,Zm W2 H2 qs2]=.ex noHN):=by
 have jl:=jn_len (W1:=(W1:Int)) (H:=H1) (qs1:=qs1) (qs2:=qs2)
 have h82:=h1.h2
 have ew:D.int ((W1:Int)+W2)=D.int ((W1+W2:Nat):Int):=by congr 1
 have em:∀l:List Sq,(l.map fun q=>q.s.d)=(l.map Sq.s).map Sd.d:=fun l=>by rw[List.map_map];rfl
 refine⟨fun j=>?_,fun j=>?_⟩
 ·unfold jOK at j
  rw[Bool.and_eq_true,decide_eq_true_eq,decide_eq_true_eq] at j
  obtain⟨rfl,hw⟩:=j
  refine(Yc h82 l1 l2 rfl).1 _ ?_
  have c:=f_chk (W:=W1+W2) (H:=H1) (by have:=h1.w1;lia) hw h1.h1 h82 (jn_good h1.w1 h2.w1 h1.g h2.g).good (by rw[List.length_map];lia)
  unfold Xg at c
  rw[ew,em]
  exact c
 ·by_cases hh:H1=H2
  ·subst hh
   unfold jOK at j
   rw[Bool.and_eq_false_iff,decide_eq_false_iff_not,decide_eq_false_iff_not] at j
   have hw:¬W1+W2<=8:=by
    rcases j with j|j
    ·exact(j rfl).elim
    ·exact j
   refine(Yc h82 l1 l2 rfl).2 _ ?_
   rw[em]
   refine(Yf (fun s hs=>?_) (by rw[List.length_map];unfold jnQ at jl;lia)).trans ?_
   ·obtain⟨q,_,rfl⟩:=List.mem_map.mp hs
    exact sq_flat q
   ·have:inR (.int ((W1:Int)+W2)) 1 8=false:=by
     unfold inR
     dsimp only
     rw[Bool.and_eq_false_iff,decide_eq_false_iff_not,decide_eq_false_iff_not]
     lia
    rw[this,Bool.false_and,if_neg (by decide)]
  ·exact f_joined_no hh
noncomputable def ctB:DSt->M O:=(sIf (DL.tB (Z0 Qm (Zb (Zd 4) (Zb (Zd 1) Zj)))) (Zr (Yx 2 (Qn (Zb (eC (.str kUp)) (Zb (Zd 1) (Zb (eOp gIx (Zd 4) (eC (.int 2))) (Zb (eOp gIx (Zd 4) (eC (.int 3))) (Zb (eC (.str cP)) Zj)))))))
   (Yx 3 (Qn (Zb (eC (.str kUp)) (Zb (eC (.int 0)) (Zb (eOp gIx (Zd 4) (eC (.int 2))) (Zb (eC (.str cP)) (Zb (eOp gIx (Zd 4) (eC (.int 4))) Zj)))))))) (sIf (DL.tB (eOp gLt (eOp gIx (Zd 4) (eC (.int 1))) (Zd 1))) (Yx 2 (Zd 4)) (Yx 3 (Z0 Q2 (Zb (Zd 4) (Zb (eUn gNeg (Zd 1)) Zj))))))
noncomputable def lcB:DSt->M O:=(sIf (DL.tA (DL.tB (eOp gEq (Zd 4) (eC (.str kUp)))) (DL.tB (eOp gEq (Zd 5) (Zd 1)))) (Zr (Yx 2 (Qn (Zb (Zd 4) (Zb (Zd 5) (Zb (Zd 6) (Zb (Zd 7) (Zb (eC (.str cP)) Zj)))))))
   (Yx 3 (Qn (Zb (Zd 4) (Zb (eC (.int 0)) (Zb (Zd 6) (Zb (eC (.str cP)) (Zb (Zd 8) Zj)))))))) (sIf (DL.tB (eOp gLt (Zd 5) (Zd 1))) (Yx 2 (Qn (Zb (Zd 4) (Zb (Zd 5) (Zb (Zd 6) (Zb (Zd 7) (Zb (Zd 8) Zj))))))) (Yx 3 (Qn (Zb (Zd 4) (Zb (DL.eOp DL.gSub (Zd 5) (Zd 1)) (Zb (Zd 6) (Zb (Zd 7) (Zb (Zd 8) Zj)))))))))
abbrev g4:D->DSt->M DSt:=(gTupD 5 (Qa (gNm 4) (Qa (gNm 5) (Qa (gNm 6) (Qa (gNm 7) (Qa (gNm 8) gsNil))))))
theorem cl_cons (k:Int)(q:Sq)(qs:List Sq):clQ k (q::qs)=(cl1 k q).toList++clQ k qs:=by
 unfold clQ
 rw[List.filterMap_cons]
 cases cl1 k q<;>rfl
theorem cr_cons (k:Int)(q:Sq)(qs:List Sq):crQ k (q::qs)=(cr1 k q).toList++crQ k qs:=by
 unfold crQ
 rw[List.filterMap_cons]
 cases cr1 k q<;>rfl
theorem app2 {sd:DSt}{i:Nat}{f:DSt->M D}{qs:List Sq}{q:Sq}(h:sd[i]?=some (some (.ow (qs.map fun q=>q.s.d))))(hf:f sd=.ok q.s.d)(hl:qs.length<=1000):Yx i f sd=.ok (.nx (sd.set i (some (.ow ((qs++[q]).map fun q=>q.s.d))))):=by
 rw[app_ok h hf (by rw[List.length_map];exact hl),List.map_append]
 rfl
theorem ct_turn (v0:Option S)(k:Int)(q:Sq)(ls rs:List Sq)(hl:ls.length<=900)(hr:rs.length<=900) :
  ctB [v0,some (.im (.int k)),some (.ow (ls.map fun q=>q.s.d)),some (.ow (rs.map fun q=>q.s.d)),some (.im q.s.d)]=.ok (.nx [v0,some (.im (.int k)),some (.ow ((ls++(cl1 k q).toList).map fun q=>q.s.d)),some (.ow ((rs++(cr1 k q).toList).map fun q=>q.s.d)),some (.im q.s.d)]):=by
 have fl:=f_line q k
 have fm:=f_shift q (-k)
 have e1:=q1 q
 have e2:=q2 q
 have e3:=q3 q
 have e4:=q4 q
 unfold cl1 cr1 ctB
 cases a:atL k q with
 |true =>
  rw[a] at fl
  rw[if_pos rfl,if_pos rfl]
  exact Z2 (Qh (Zv (aC rfl (a1 rfl)) fl rfl)) (go (app2 (q:=⟨true,k,q.y,q.o,cP⟩) rfl (tup5 rfl rfl (Zg rfl rfl e2) (Zg rfl rfl e3) rfl) (by lia)) (app2 (q:=⟨true,0,q.y,cP,q.p⟩) rfl (tup5 rfl rfl (Zg rfl rfl e2) rfl (Zg rfl rfl e4)) (by lia)))
 |false =>
  rw[a] at fl
  rw[if_neg Bool.false_ne_true,if_neg Bool.false_ne_true]
  refine if_else (Qh (Zv (aC rfl (a1 rfl)) fl rfl)) ?_
  have tl:DL.tB (eOp gLt (eOp gIx (Zd 4) (eC (.int 1))) (Zd 1)) [v0,some (.im (.int k)),some (.ow (ls.map fun q=>q.s.d)),some (.ow (rs.map fun q=>q.s.d)),some (.im q.s.d)]=.ok (decide (q.x<k)):=Qh (Zg (Zg rfl rfl e1) rfl rfl)
  by_cases hx:q.x<k
  ·rw[decide_eq_true hx] at tl
   rw[if_pos hx,if_pos hx]
   refine Z2 tl ((app2 (q:=q) rfl rfl (by lia)).trans ?_)
   rw[show rs++(none:Option Sq).toList=rs from List.append_nil _]
   rfl
  ·rw[decide_eq_false hx] at tl
   rw[if_neg hx,if_neg hx]
   refine if_else tl ((app2 (q:=shQ (-k) q) rfl (Zv (aC rfl (a1 rfl)) fm rfl) (by lia)).trans ?_)
   rw[show ls++(none:Option Sq).toList=ls from List.append_nil _]
   rfl
theorem toL_len {α:Type}(o:Option α):o.toList.length<=1:=by cases o<;>simp
theorem ct_loop (v0:Option S)(k:Int):∀(qs ls rs:List Sq) (v4:Option S),ls.length+qs.length<=900->rs.length+qs.length<=900->∃w4,
  Q0 (gNm 4) ctB (qs.map fun q=>q.s.d) [v0,some (.im (.int k)),some (.ow (ls.map fun q=>q.s.d)),some (.ow (rs.map fun q=>q.s.d)),v4]=.ok (.nx [v0,some (.im (.int k)),some (.ow ((ls++clQ k qs).map fun q=>q.s.d)),some (.ow ((rs++crQ k qs).map fun q=>q.s.d)),w4])
 |[],ls,rs,v4,_,_=>⟨v4,by unfold clQ crQ;simp only[List.map_nil,List.filterMap_nil,List.append_nil];rfl⟩
 |q::qs,ls,rs,v4,h1,h2=>by
  rw[List.length_cons] at h1 h2
  have t:=ct_turn v0 k q ls rs (by lia) (by lia)
  have:=toL_len (cl1 k q)
  have:=toL_len (cr1 k q)
  obtain⟨w4,e⟩:=ct_loop v0 k qs (ls++(cl1 k q).toList) (rs++(cr1 k q).toList) (some (.im q.s.d)) (by rw[List.length_append];lia) (by rw[List.length_append];lia)
  refine⟨w4,?_⟩
  rw[cl_cons,cr_cons,List.map_cons]
  rw[List.append_assoc,List.append_assoc] at e
  exact(Yv rfl t).trans e
theorem lc_turn (v0:Option S)(k:Int)(q:Sq)(ls rs:List Sq)(hl:ls.length<=900)(hr:rs.length<=900) :
  lcB [v0,some (.im (.int k)),some (.ow (ls.map fun q=>q.s.d)),some (.ow (rs.map fun q=>q.s.d)),some (.im (.str (kd q.u))),some (.im (.int q.x)),some (.im (.int q.y)),some (.im (.str q.o)),some (.im (.str q.p))]=.ok (.nx [v0,some (.im (.int k)),some (.ow ((ls++(cl1 k q).toList).map fun q=>q.s.d)),some (.ow ((rs++(cr1 k q).toList).map fun q=>q.s.d)),some (.im (.str (kd q.u))),some (.im (.int q.x)),some (.im (.int q.y)),some (.im (.str q.o)),some (.im (.str q.p))]):=by
 have t:DL.tA (DL.tB (eOp gEq (Zd 4) (eC (.str kUp)))) (DL.tB (eOp gEq (Zd 5) (Zd 1))) [v0,some (.im (.int k)),some (.ow (ls.map fun q=>q.s.d)),some (.ow (rs.map fun q=>q.s.d)),some (.im (.str (kd q.u))),some (.im (.int q.x)),some (.im (.int q.y)),some (.im (.str q.o)),some (.im (.str q.p))]=.ok (atL k q):=tA_b (Qh (Zg rfl rfl (kd_eq q.u))) (Qh (Zg rfl rfl (eq_int _ _)))
 unfold cl1 cr1 lcB
 cases a:atL k q with
 |true =>
  rw[a] at t
  rw[if_pos rfl,if_pos rfl]
  have hq:=atL_iff.mp a
  refine Z2 t (go (app2 (q:=⟨true,k,q.y,q.o,cP⟩) rfl (tup5 rfl rfl rfl rfl rfl |>.trans ?_) (by lia)) (app2 (q:=⟨true,0,q.y,cP,q.p⟩) rfl (tup5 rfl rfl rfl rfl rfl |>.trans ?_) (by lia)))
  ·rw[hq.1,hq.2];rfl
  ·rw[hq.1];rfl
 |false =>
  rw[a] at t
  rw[if_neg Bool.false_ne_true,if_neg Bool.false_ne_true]
  refine if_else t ?_
  have tl:DL.tB (eOp gLt (Zd 5) (Zd 1)) [v0,some (.im (.int k)),some (.ow (ls.map fun q=>q.s.d)),some (.ow (rs.map fun q=>q.s.d)),some (.im (.str (kd q.u))),some (.im (.int q.x)),some (.im (.int q.y)),some (.im (.str q.o)),some (.im (.str q.p))]=.ok (decide (q.x<k)):=Qh (Zg rfl rfl rfl)
  by_cases hx:q.x<k
  ·rw[decide_eq_true hx] at tl
   rw[if_pos hx,if_pos hx]
   refine Z2 tl ((app2 (q:=q) rfl (tup5 rfl rfl rfl rfl rfl) (by lia)).trans ?_)
   rw[show rs++(none:Option Sq).toList=rs from List.append_nil _]
   rfl
  ·rw[decide_eq_false hx] at tl
   rw[if_neg hx,if_neg hx]
   refine if_else tl ((app2 (q:=shQ (-k) q) rfl (tup5 rfl (Zg rfl rfl (show _=M.ok (D.int (q.x + -k)) from by rw[<-Int.sub_eq_add_neg];rfl)) rfl rfl rfl) (by lia)).trans ?_)
   rw[show ls++(none:Option Sq).toList=ls from List.append_nil _]
   rfl
theorem lc_loop (v0:Option S)(k:Int):∀(qs ls rs:List Sq) (v4 v5 v6 v7 v8:Option S),ls.length+qs.length<=900->rs.length+qs.length<=900->∃w4 w5 w6 w7 w8,
  Q0 g4 lcB (qs.map fun q=>q.s.d) [v0,some (.im (.int k)),some (.ow (ls.map fun q=>q.s.d)),some (.ow (rs.map fun q=>q.s.d)),v4,v5,v6,v7,v8]=.ok (.nx [v0,some (.im (.int k)),some (.ow ((ls++clQ k qs).map fun q=>q.s.d)),some (.ow ((rs++crQ k qs).map fun q=>q.s.d)),w4,w5,w6,w7,w8])
 |[],ls,rs,v4,v5,v6,v7,v8,_,_=>⟨v4,v5,v6,v7,v8,by unfold clQ crQ;simp only[List.map_nil,List.filterMap_nil,List.append_nil];rfl⟩
 |q::qs,ls,rs,v4,v5,v6,v7,v8,h1,h2=>by
  rw[List.length_cons] at h1 h2
  have t:=lc_turn v0 k q ls rs (by lia) (by lia)
  have:=toL_len (cl1 k q)
  have:=toL_len (cr1 k q)
  obtain⟨w4,w5,w6,w7,w8,e⟩:=lc_loop v0 k qs (ls++(cl1 k q).toList) (rs++(cr1 k q).toList) (some (.im (.str (kd q.u)))) (some (.im (.int q.x))) (some (.im (.int q.y))) (some (.im (.str q.o))) (some (.im (.str q.p))) (by rw[List.length_append];lia) (by rw[List.length_append];lia)
  refine⟨w4,w5,w6,w7,w8,?_⟩
  rw[cl_cons,cr_cons,List.map_cons]
  rw[List.append_assoc,List.append_assoc] at e
  exact(Yv rfl t).trans e
end Law
set_option maxRecDepth 100000
set_option maxHeartbeats 4000000
set_option linter.all false
namespace Law
open PySem L2 DL
def noX (d:D):XV:=⟨"NoHall", ["side"],[d]⟩
abbrev ancL:List Str:=["NoHall", "SightError", "ValueError"]
theorem anc_no:anc "NoHall" = ancL:=by
 unfold anc
 rw[if_pos (by decide +kernel)]
theorem xhas (d:D):(([("NoHall" : Str)]:List Str).contains (noX d).cls&&!(noX d).ns.isEmpty)=true:=by
 show(([("NoHall" : Str)]:List Str).contains "NoHall" && !([("side" : Str)]:List Str).isEmpty)=true
 decide +kernel
theorem inst_no (d:D)(cn:Str)(b:Bool)(r:List (Option S))(h:ancL.contains cn=b):Y4 0 ["NoHall"] anc cn (some (.xc (noX d))::r)=.ok (.bl b):=by
 unfold Y4
 simp only[List.getElem?_cons_zero]
 rw[xhas,if_pos rfl]
 show M.ok (D.bl ((anc "NoHall").contains cn))=_
 rw[anc_no,h]
theorem fld_no (d:D)(r:List (Option S)):eFldX 0 ["NoHall"] "side" (some (.xc (noX d))::r)=.ok d:=by
 unfold eFldX
 simp only[List.getElem?_cons_zero]
 have h1:(([("NoHall" : Str)]:List Str).contains (noX d).cls&&(noX d).ns==[("side" : Str)])=true:=by
  show(([("NoHall" : Str)]:List Str).contains "NoHall" && ([("side" : Str)]:List Str)==[("side" : Str)])=true
  decide +kernel
 rw[h1,if_pos rfl]
 rfl
theorem fe1 (m:Nat)(f:DSt->M O)(x:XV)(a0:D):fnE 1 m f x [a0]=fin' (f (some (.xc x)::([some (S.im a0)]++List.replicate m none))):=rfl
theorem f_refused (d:D)(hd:d=.non\/d=.int 0):Xa (noX d) [d]=.ok (.im (.bl true)):=by
 have i1:=fun r=>inst_no d "NoHall" true r (by decide +kernel)
 have i2:=fun r=>inst_no d "NoText" false r (by decide +kernel)
 have i3:=fun r=>inst_no d "NoPerson" false r (by decide +kernel)
 have i4:=fun r=>inst_no d "NoHiding" false r (by decide +kernel)
 have i5:=fun r=>inst_no d "NoRing" false r (by decide +kernel)
 have i6:=fun r=>inst_no d "NoRow" false r (by decide +kernel)
 have i7:=fun r=>inst_no d "NoName" false r (by decide +kernel)
 have i9:=fun r=>inst_no d "ValueError" true r (by decide +kernel)
 have i0:=fun r=>fld_no d r
 refine(fe1 _ _ _ _).trans (Ql (go (sd':=[some (.xc (noX d)),some (.im d),some (.im (.lst [.bl false,.bl false,.bl false]))]) ?_ (go (sd':=[some (.xc (noX d)),some (.im d),some (.im (.lst [.bl false,.bl false,.bl false,.bl false,.bl false,.bl false]))]) ?_ (go (Qc ?_) ?_))))
 ·refine Qo (d:=.lst [.bl false,.bl false,.bl false]) ?_
  unfold Xb
  rw[aC (i4 _) (aC (i7 _) (a1 (i3 _)))]
  rfl
 ·refine Qo (d:=.lst [.bl false,.bl false,.bl false,.bl false,.bl false,.bl false]) ?_
  have e:Xb (Zb (Y4 0 ["NoHall"] anc "NoRing") (Zb (Y4 0 ["NoHall"] anc "NoRow") (Zb (Y4 0 ["NoHall"] anc "NoText") Zj))) [some (.xc (noX d)),some (.im d),some (.im (.lst [.bl false,.bl false,.bl false]))]=.ok (.lst [.bl false,.bl false,.bl false]):=by
   unfold Xb
   rw[aC (i5 _) (aC (i6 _) (a1 (i2 _)))]
   rfl
  rw[eOp,e]
  rfl
 ·refine tO_f (Qh (Zg rfl rfl ?_)) (tO_f ((tN_b (Qh (i1 _))).trans rfl) ((tN_b (Qh (i9 _))).trans rfl))
  simp[gIn,D.deps,D.dep,inD,D.eq]
 ·rcases hd with rfl|rfl
  ·exact Q4 (Z2 (Qh (Zg rfl rfl rfl)) (Z3 (Zg (i0 _) rfl rfl)))
  ·refine go (Qc (Qh (Zg rfl rfl rfl))) (Z3 (and_ok (Zg (i0 _) rfl ((gEq_b (by simp[D.dep])).trans (by simp[D.eq]))) ?_))
   unfold eNot eIs
   rw[i0]
   rfl
theorem try_ok {F:List D->M S}{fs:DSt->M (List D)}{j i:Nat}{cs:List Str}{g:DSt->M O}{sd:DSt}{ds:List D}{d:D}(h1:fs sd=.ok ds)(h2:F ds=.ok (.im d)):sTry F fs j i cs g sd=.ok (.nx (sd.set j (some (.im d)))):=by
 unfold sTry
 rw[h1]
 dsimp only
 rw[h2]
theorem try_ex {F:List D->M S}{fs:DSt->M (List D)}{g:DSt->M O}{sd sd':DSt}{j i:Nat}{ds:List D}{d:D}(h1:fs sd=.ok ds)(h2:F ds=.ex (noX d))(h3:g (sd.set i (some (.xc (noX d))))=.ok (.nx sd')):sTry F fs j i ["NoHall"] g sd=.ok (.nx (sd'.set i none)):=by
 unfold sTry
 rw[h1]
 dsimp only
 rw[h2]
 dsimp only
 rw[if_pos (show([("NoHall" : Str)]:List Str).contains (noX d).cls=true by show([("NoHall" : Str)]:List Str).contains "NoHall" = true;decide +kernel),h3]
theorem callE_ok {i:Nat}{F:XV->List D->M S}{fs:DSt->M (List D)}{sd:DSt}{x:XV}{ds:List D}{d:D}(h:sd[i]?=some (some (.xc x)))(h1:fs sd=.ok ds)(h2:F x ds=.ok (.im d)):eCallE i F fs sd=.ok d:=by
 unfold eCallE
 rw[h]
 dsimp only
 rw[h1,M.bind_ok,h2]
theorem noHN_X:noHN=noX .non:=rfl
theorem nx_hall {W H:Nat}{qs rs:List Sq}(n:Nx W H qs rs):Xg W H (srtQ qs)=Zm W H rs:=by
 unfold Zm
 rw[n.s]
theorem sd_dep (q:Sq):q.s.d.dep<=2:=by
 unfold Sq.s Sd.d
 simp[D.dep,D.deps]
theorem hallQ_dep (W H:Nat)(qs:List Sq):(Zm W H qs).dep<=5:=by
 rw[hallQ_d]
 have:D.deps (qs.map fun q=>q.s.d)<=2:=deps_le fun d hd=>by
  obtain⟨q,_,rfl⟩:=List.mem_map.mp hd
  exact sd_dep q
 simp only[D.dep,D.deps]
 lia
theorem cut_test (d:D)(W:Nat)(hall:D)(e0:gIx hall (.int 0)=.ok (.int (W:Int)))(r:List (Option S)):DL.tN (DL.tB (Z0 Zp (Zb (Zd 1) (Zb (eC (.int 1)) (Zb (eOp gSub (eOp gIx (Zd 0) (eC (.int 0))) (eC (.int 1))) Zj))))) (some (.im hall)::some (.im d)::r)=.ok (!inR d 1 ((W:Int) - 1)) :=
 tN_b (Qh (Zv (aC rfl (aC rfl (a1 (Zg (Zg rfl rfl e0) rfl (show _=M.ok (D.int ((W:Int) - 1)) from rfl))))) (f_from d 1 ((W:Int) - 1)) rfl))
theorem f_cut_no {W H:Nat}{qs:List Sq}{d:D}(h:inR d 1 ((W:Int) - 1)=false):F_cut [Zm W H qs,d]=.ex noHN:=by
 have e0:=hq0 W H qs
 generalize Zm W H qs=hall at e0 ⊢
 have t:=cut_test d W hall e0 [none,none,none]
 rw[h] at t
 exact(fn2 _ _ _ _).trans (fin_ex (sSeq_ex (Z2 t rfl)))
structure CN (W H k:Nat) (qs ls rs:List Sq):Prop where
 l:Nx k H (clQ k qs) ls
 r:Nx (W - k) H (crQ k qs) rs
theorem cn_of {W H k:Nat}{qs:List Sq}(h:HQ W H qs)(h1:1<=k)(h2:k<W):∃ls rs,CN W H k qs ls rs:=by
 have w2:=h.w2
 have ql:=h.l
 have a:=cl_len k qs
 have b:=cr_len k qs
 obtain⟨ls,n⟩:=nx_of (W:=k) (H:=H) (qs:=clQ k qs) ⟨h1,by lia,h.h1,h.h2,cl_good h.g h1 h2,by lia⟩
 obtain⟨rs,m⟩:=nx_of (W:=W - k) (H:=H) (qs:=crQ k qs) ⟨by lia,by lia,h.h1,h.h2,cr_good h.g h1 h2,by lia⟩
 exact⟨ls,rs,n,m⟩
theorem em (l:List Sq):(l.map fun q=>q.s.d)=(l.map Sq.s).map Sd.d:=by rw[List.map_map];rfl
theorem chk_q {W H:Nat}{qs rs:List Sq}(hW:1<=W)(hW':W<=8)(hH:1<=H)(hH':H<=8)(g:GoodQ W H qs)(hl:qs.length<=1000)(n:Nx W H qs rs):Qx [.tup [.int (W:Int),.int (H:Int),.tup (qs.map fun q=>q.s.d)]]=.ok (.im (Zm W H rs)):=by
 rw[<-nx_hall n,em]
 exact f_chk hW hW' hH hH' g.good (by rw[List.length_map];exact hl)
theorem f_cut {W H k:Nat}{qs ls rs:List Sq}(h:HQ W H qs)(h1:1<=k)(h2:k<W)(n:CN W H k qs ls rs):F_cut [Zm W H qs,.int (k:Int)]=.ok (.im (.tup [Zm k H ls,Zm (W - k) H rs])):=by
 have e0:=hq0 W H qs
 have e1:=hq1 W H qs
 have e2:=hq2 W H qs
 generalize Zm W H qs=hall at e0 e1 e2 ⊢
 have t:=cut_test (.int (k:Int)) W hall e0 [none,none,none]
 have hi:inR (.int (k:Int)) 1 ((W:Int) - 1)=true:=by
  unfold inR
  dsimp only
  rw[Bool.and_eq_true,decide_eq_true_eq,decide_eq_true_eq]
  lia
 rw[hi] at t
 have w2:=h.w2
 have ql:=h.l
 have a:=cl_len k qs
 have b:=cr_len k qs
 obtain⟨w4,lp⟩:=ct_loop (some (S.im hall)) k qs [] [] none (by simp;lia) (by simp;lia)
 rw[List.nil_append,List.nil_append] at lp
 have c1:=chk_q h1 (by lia) h.h1 h.h2 (cl_good h.g h1 h2) (by lia) n.l
 have c2:=chk_q (W:=W - k) (by lia) (by lia) h.h1 h.h2 (cr_good h.g h1 h2) (by lia) n.r
 have ew:gSub (.int (W:Int)) (.int (k:Int))=.ok (.int ((W - k:Nat):Int)):=by
  show M.ok (D.int ((W:Int) - k))=_
  congr 2
  lia
 generalize Zm k H ls=r1 at c1 ⊢
 generalize Zm (W - k) H rs=r2 at c2 ⊢
 exact(fn2 _ _ _ _).trans (Ql (go (Qc t) (go (own_nil 2 _) (go (own_nil 3 _) (go ((Q5 (seq_t (Zg rfl rfl e2))).trans lp) (Z3 (tup2 (callX_ok (a1 (tup3 rfl (Zg rfl rfl e1) (cb_ok (a1 rfl) rfl))) c1 rfl) (callX_ok (a1 (tup3 (Zg (Zg rfl rfl e0) rfl ew) (Zg rfl rfl e1) (cb_ok (a1 rfl) rfl))) c2 rfl))))))))
theorem lcut_test (d:D)(W:Nat)(hall:D)(e0:gIx hall (.int 0)=.ok (.int (W:Int)))(r:List (Option S)):DL.tO (DL.tN (DL.tB (eIs "int" (Zd 1)))) (DL.tO (DL.tB (eIs "bool" (Zd 1))) (DL.tO (DL.tB (eOp gLt (Zd 1) (eC (.int 1)))) (DL.tB (eOp gGe (Zd 1) (eOp gIx (Zd 0) (eC (.int 0))))))) (some (.im hall)::some (.im d)::r)=.ok (!inR d 1 ((W:Int) - 1)):=by
 cases d with
 |int z =>
  refine(tO_f ((tN_b (Qh (b:=true) rfl)).trans rfl) (tO_f (Qh (b:=false) rfl) (tO_b (Qh (Zg rfl rfl (show _=M.ok (D.bl (decide (z<1))) from rfl))) (Qh (Zg rfl (Zg rfl rfl e0) (show _=M.ok (D.bl (decide (z ≥ (W:Int)))) from rfl)))))).trans ?_
  congr 1
  unfold inR
  rw[Bool.eq_iff_iff]
  simp only[Bool.or_eq_true,Bool.not_eq_true',decide_eq_true_eq,Bool.and_eq_false_iff,decide_eq_false_iff_not]
  lia
 |bl b=>exact tO_f ((tN_b (Qh (b:=true) rfl)).trans rfl) (tO_t (Qh rfl))
 |non=>exact tO_t ((tN_b (Qh (b:=false) rfl)).trans rfl)
 |str s=>exact tO_t ((tN_b (Qh (b:=false) rfl)).trans rfl)
 |tup s=>exact tO_t ((tN_b (Qh (b:=false) rfl)).trans rfl)
 |lst s=>exact tO_t ((tN_b (Qh (b:=false) rfl)).trans rfl)
theorem f_lcut_no {W H:Nat}{qs:List Sq}{d:D}(h:inR d 1 ((W:Int) - 1)=false):F_l_cut [Zm W H qs,d]=.ok (.im .non):=by
 have e0:=hq0 W H qs
 generalize Zm W H qs=hall at e0 ⊢
 have t:=lcut_test d W hall e0 [none,none,none,none,none,none,none]
 rw[h] at t
 exact(fn2 _ _ _ _).trans (Ql (Q4 (Z2 t (Z3 rfl))))
theorem f_lcut {W H k:Nat}{qs ls rs:List Sq}(h:HQ W H qs)(h1:1<=k)(h2:k<W)(n:CN W H k qs ls rs):F_l_cut [Zm W H qs,.int (k:Int)]=.ok (.im (.tup [Zm k H ls,Zm (W - k) H rs])):=by
 have e0:=hq0 W H qs
 have e1:=hq1 W H qs
 have e2:=hq2 W H qs
 generalize Zm W H qs=hall at e0 e1 e2 ⊢
 have t:=lcut_test (.int (k:Int)) W hall e0 [none,none,none,none,none,none,none]
 have hi:inR (.int (k:Int)) 1 ((W:Int) - 1)=true:=by
  unfold inR
  dsimp only
  rw[Bool.and_eq_true,decide_eq_true_eq,decide_eq_true_eq]
  lia
 rw[hi] at t
 have w2:=h.w2
 have ql:=h.l
 have a:=cl_len k qs
 have b:=cr_len k qs
 obtain⟨w4,w5,w6,w7,w8,lp⟩:=lc_loop (some (S.im hall)) k qs [] [] none none none none none (by simp;lia) (by simp;lia)
 rw[List.nil_append,List.nil_append] at lp
 have c1:=f_sorted (cl_good h.g h1 h2) (by lia)
 have c2:=f_sorted (cr_good h.g h1 h2) (by lia)
 rw[nx_hall n.l] at c1
 rw[nx_hall n.r] at c2
 have ew:gSub (.int (W:Int)) (.int (k:Int))=.ok (.int ((W - k:Nat):Int)):=by
  show M.ok (D.int ((W:Int) - k))=_
  congr 2
  lia
 generalize Zm k H ls=r1 at c1 ⊢
 generalize Zm (W - k) H rs=r2 at c2 ⊢
 exact(fn2 _ _ _ _).trans (Ql (go (Qc t) (go (own_nil 2 _) (go (own_nil 3 _) (go ((Q5 (seq_t (Zg rfl rfl e2))).trans lp) (Z3 (tup2 (Zv (aC rfl (aC (Zg rfl rfl e1) (a1 rfl))) c1 rfl) (Zv (aC (Zg (Zg rfl rfl e0) rfl ew) (aC (Zg rfl rfl e1) (a1 rfl))) c2 rfl))))))))
theorem ff3 (nm:Str)(m:Nat)(f:DSt->M O)(a b c:D):fnF nm 3 m f [a,b,c]=fin' (f (some (.fn nm)::([some (.im a),some (.im b),some (.im c)]++List.replicate m none))):=rfl
theorem tryL_of {nm:Str}{F:List D->M S}{fs:DSt->M (List D)}{j i:Nat}{cs:List Str}{g:DSt->M O}{r:List (Option S)}{x:M O}(h:sTry F fs j i cs g (some (.fn nm)::r)=x):sTryL 0 nm F fs j i cs g (some (.fn nm)::r)=x:=by
 unfold sTryL
 rw[if_pos,h]
 unfold isFnS
 simp
theorem f_askj {a b d:D} (h:(Qv [a,b]=.ok (.im d)/\isD "tuple" d=true/\d.dep<=60/\d.isN=false)\/(Qv [a,b]=.ex noHN/\d=.non)):Q8 [a,b,d]=.ok (.im (.bl true)):=by
 refine(ff3 _ _ _ _ _ _).trans (Ql ?_)
 rcases h with⟨h1,h2,h3,h4⟩|⟨h1,rfl⟩
 ·refine go rfl (go rfl (go (tryL_of (try_ok (aC rfl (a1 rfl)) h1)) (go (Qc (Qh (Zg rfl rfl (show _=M.ok (D.bl false) from by show M.ok (D.bl d.isN)=_;rw[h4])))) (Z3 (and_ok rfl (and_ok ?_ (Zg rfl rfl (eq_self h3))))))))
  show M.ok (D.bl (isD "tuple" d))=_
  rw[h2]
 ·rw[noHN_X] at h1
  exact go rfl (go rfl (go (tryL_of (try_ex (aC rfl (a1 rfl)) h1 rfl)) (Q4 (Z2 (Qh (Zg rfl rfl rfl)) (Z3 (callE_ok rfl (a1 rfl) (f_refused _ (.inl rfl))))))))
theorem f_askc {a b d:D} (h:(F_cut [a,b]=.ok (.im d)/\isD "tuple" d=true/\d.dep<=60/\d.isN=false)\/(F_cut [a,b]=.ex noHN/\d=.non)):Ye [a,b,d]=.ok (.im (.bl true)):=by
 refine(ff3 _ _ _ _ _ _).trans (Ql ?_)
 rcases h with⟨h1,h2,h3,h4⟩|⟨h1,rfl⟩
 ·refine go rfl (go rfl (go (tryL_of (try_ok (aC rfl (a1 rfl)) h1)) (go (Qc (Qh (Zg rfl rfl (show _=M.ok (D.bl false) from by show M.ok (D.bl d.isN)=_;rw[h4])))) (Z3 (and_ok rfl (and_ok ?_ (Zg rfl rfl (eq_self h3))))))))
  show M.ok (D.bl (isD "tuple" d))=_
  rw[h2]
 ·rw[noHN_X] at h1
  exact go rfl (go rfl (go (tryL_of (try_ex (aC rfl (a1 rfl)) h1 rfl)) (Q4 (Z2 (Qh (Zg rfl rfl rfl)) (Z3 (callE_ok rfl (a1 rfl) (f_refused _ (.inl rfl))))))))
end Law
set_option maxRecDepth 100000
set_option maxHeartbeats 4000000
set_option linter.all false
namespace Law
open PySem L2 DL
theorem d_inj {a b:Sq}:D.eq a.s.d b.s.d=decide (a=b):=by
 obtain⟨u,x,y,o,p⟩:=a
 obtain⟨u',x',y',o',p'⟩:=b
 show D.eq (.tup [.str (kd u),.int x,.int y,.str o,.str p]) (.tup [.str (kd u'),.int x',.int y',.str o',.str p'])=_
 simp only[D.eq,D.eqs,Bool.and_true]
 rw[Bool.eq_iff_iff]
 simp only[Bool.and_eq_true,beq_iff_eq,decide_eq_true_eq,Sq.mk.injEq]
 constructor
 ·rintro⟨h1,h2⟩
  exact⟨kd_inj h1,h2⟩
 ·rintro⟨h1,h2⟩
  exact⟨by rw[h1],h2⟩
theorem inD_q (q:Sq):∀qs:List Sq,inD q.s.d (qs.map fun q=>q.s.d)=decide (q∈qs)
 |[]=>rfl
 |r::qs=>by
  have ih:=inD_q q qs
  unfold inD at ih ⊢
  rw[List.map_cons,List.any_cons,ih,d_inj,Bool.eq_iff_iff]
  simp only[Bool.or_eq_true,decide_eq_true_eq,List.mem_cons]
  constructor
  ·rintro(h|h)
   ·exact .inl h.symm
   ·exact .inr h
  ·rintro(h|h)
   ·exact .inl h.symm
   ·exact .inr h
def tP (qs:List Sq)(q:Sq):Bool:=decide (q∈qs)||!((q.o==cP)&&(q.p==cP))
theorem f_told {W H:Nat}{rs qs:List Sq}(hl:rs.length<=900)(h:rs.filter (tP qs)=qs):F_l_told [Zm W H rs,Zm W H qs]=.ok (.im (.bl true)):=by
 have e2:=hq2 W H rs
 have g2:=hq2 W H qs
 have s1:∀r:List (Option S),eSl (Zd 0) Y6 (Y7 (eC (.int 2))) (some (.im (Zm W H rs))::r)=.ok (.tup [.int (W:Int),.int (H:Int)]):=fun r=>by
  rw[hallQ_d];rfl
 have s2:∀r:List (Option S),eSl (Zd 1) Y6 (Y7 (eC (.int 2))) (some (.im (Zm W H rs))::some (.im (Zm W H qs))::r)=.ok (.tup [.int (W:Int),.int (H:Int)]):=fun r=>by
  rw[hallQ_d W H qs];rfl
 have dp:D.deps (qs.map fun q=>q.s.d)<=2:=deps_le fun d hd=>by
  obtain⟨q,_,rfl⟩:=List.mem_map.mp hd
  exact sd_dep q
 generalize Zm W H rs=a at e2 s1 s2 ⊢
 generalize Zm W H qs=b at g2 s2 ⊢
 have c:eNew (Xe (iSeq (eOp gIx (Zd 0) (eC (.int 2)))) 1 [1] (gNm 0) (DL.tO (DL.tB (eOp gIn (Zd 0) (eOp gIx (Zd 1) (eC (.int 2))))) (DL.tB (eOp gNe (eSl (Zd 0) (Y7 (eC (.int 3))) Y6) (Qn (Zb (eC (.str cP)) (Zb (eC (.str cP)) Zj)))))) (Zd 0)) [some (.im a),some (.im b),none]=.ok (.lst ((rs.filter (tP qs)).map fun q=>q.s.d)):=by
  refine compIf_ok (fun q:Sq=>q.s.d) (fun q=>q.s.d) (tP qs) (seq_t (Zg rfl rfl e2)) (by lia) fun q _=>⟨[some (.im q.s.d),some (.im b)],rfl,?_,rfl⟩
  refine(tO_b (Qh (b:=decide (q∈qs)) (Zg rfl (Zg rfl rfl g2) ?_)) (Qh (b:=!((q.o==cP)&&(q.p==cP))) (Zg (show _=M.ok (D.tup [.str q.o,.str q.p]) from rfl) (tup2 rfl rfl) ?_))).trans rfl
  ·show(if D.deps (qs.map fun q=>q.s.d)<=60 then M.ok (D.bl (inD q.s.d (qs.map fun q=>q.s.d))) else M.bad)=_
   rw[if_pos (by lia),inD_q]
  ·unfold gNe
   rw[if_pos (by simp[D.dep,D.deps])]
   simp only[D.eq,D.eqs,Bool.and_true]
 rw[h] at c
 exact(fn2 _ _ _ _).trans (Ql (go (Qo c) (Z3 (and_ok (Zg (s1 _) (s2 _) (eq_self (by simp[D.dep,D.deps]))) (Zg (cb_ok (a1 rfl) (show _=M.ok (D.tup (qs.map fun q=>q.s.d)) from rfl)) (Zg rfl rfl g2) (eq_self (by simp only[D.dep];lia)))))))
theorem nd_list {qs:List Sq}(h:(qs.map Sq.e).Nodup):qs.Nodup:=by
 unfold List.Nodup at h ⊢
 rw[List.pairwise_map] at h
 exact h.imp fun {a b} n z=>n (by rw[z])
theorem srt_pw {qs ps:List Sq}(h:ps.map Sq.s=srtQ qs):(ps.map fun q=>Qg q.s.d).Pairwise leK:=by
 have e:(srtQ qs).map Sd.d=Q6 ((qs.map Sq.s).map Sd.d):=srt_d _
 rw[<-h,List.map_map] at e
 have s:=Y0 ((qs.map Sq.s).map Sd.d)
 rw[<-e] at s
 have s:=List.pairwise_map.mp s
 exact List.pairwise_map.mpr s
theorem same_of {ps qs:List Sq}(h1:(ps.map fun q=>Qg q.s.d).Pairwise leK)(h2:(qs.map fun q=>Qg q.s.d).Pairwise leK)(p:ps.Perm qs):ps=qs:=by
 have e:=keys_same (p.map fun q=>Qg q.s.d) h1 h2
 have k:∀l:List Sq,(l.map fun q=>Qg q.s.d).map (fun ks=>unQ (unS (keyD ks)))=l:=fun l=>by
  rw[List.map_map]
  conv=>rhs;rw[<-List.map_id l]
  refine List.map_congr_left fun q _=>?_
  show unQ (unS (keyD (Qg q.s.d)))=q
  rw[key_row]
  exact un_q q
 rw[<-k ps,e,k qs]
theorem fcO_of {qs:List Sq}(hn:(qs.map Sq.e).Nodup){q:Sq}(hq:q∈qs){x y:Int}(h:q.u=true/\q.x=x/\q.y=y):fcO qs x y=q.o:=by
 unfold fcO
 rw[find_of hn hq h]
theorem fcP_of {qs:List Sq}(hn:(qs.map Sq.e).Nodup){q:Sq}(hq:q∈qs){x y:Int}(h:q.u=true/\q.x=x/\q.y=y):fcP qs x y=q.p:=by
 unfold fcP
 rw[find_of hn hq h]
theorem sq_ext {a b:Sq}(h1:a.u=b.u)(h2:a.x=b.x)(h3:a.y=b.y)(h4:a.o=b.o)(h5:a.p=b.p):a=b:=by
 obtain⟨u,x,y,o,p⟩:=a
 obtain⟨u',x',y',o',p'⟩:=b
 dsimp only at h1 h2 h3 h4 h5
 rw[h1,h2,h3,h4,h5]
theorem tP_pp {qs:List Sq}{q:Sq}(h:tP qs q=true)(ho:q.o=cP)(hp:q.p=cP):q∈qs:=by
 unfold tP at h
 rw[ho,hp,beq_self_eq_true,Bool.and_self,Bool.not_true,Bool.or_false,decide_eq_true_eq] at h
 exact h
theorem told_l {W1 W2 H:Nat}{qs1 qs2 js ls:List Sq}(h1:HQ W1 H qs1)(h2:HQ W2 H qs2)(hs:srtQ qs1=qs1.map Sq.s)(pj:js.Perm (jnQ W1 H qs1 qs2))(n:Nx W1 H (clQ W1 js) ls):ls.filter (tP qs1)=qs1:=by
 have hw:=h2.w1
 refine same_of ?_ (srt_pw hs.symm) ((List.perm_ext_iff_of_nodup ((List.filter_sublist).nodup (nd_list n.h.g.nd)) (nd_list h1.g.nd)).mpr fun x=>?_)
 ·exact List.Pairwise.sublist ((List.filter_sublist (p:=tP qs1) (l:=ls)).map fun(q:Sq)=>Qg q.s.d) (srt_pw n.s)
 rw[List.mem_filter,n.p.mem_iff]
 unfold clQ
 rw[List.mem_filterMap]
 constructor
 ·rintro⟨⟨q,hq,e⟩,hp⟩
  rcases jn_mem.mp (pj.mem_iff.mp hq) with m|m|m
  ·obtain⟨m1,m2⟩:=lf_x h1.g m
   rcases cl1_of e with⟨_,z,_⟩|⟨_,_,rfl⟩
   ·lia
   ·exact m1
  ·obtain⟨y,hy,rfl⟩:=bw_x m
   rcases cl1_of e with⟨_,_,rfl⟩|⟨z,_,_⟩
   ·dsimp only at hp ⊢
    cases f:qs1.find? (isE W1 y) with
    |some r =>
     have hr:=isE_iff.mp (List.find?_some f)
     have hm:=List.mem_of_find?_eq_some f
     have:=(ok_u (h1.g.ok r hm) hr.1).2.2.2.2.2 hr.2.1
     rw[show(⟨true,(W1:Int),(y:Int),fcO qs1 W1 y,cP⟩:Sq)=r from sq_ext hr.1.symm hr.2.1.symm hr.2.2.symm (fcO_of h1.g.nd hm hr) this.symm]
     exact hm
    |none =>
     have:fcO qs1 W1 y=cP:=by unfold fcO;rw[f]
     exact tP_pp hp this rfl
   ·exact(z ⟨rfl,rfl⟩).elim
  ·obtain⟨r,m1,rfl,m2,m3⟩:=rt_x h2.g m
   rcases cl1_of e with⟨z1,z2,_⟩|⟨_,z,_⟩
   ·have z2:r.x+W1=W1:=z2
    have:=m2 z1
    lia
   ·have z:r.x+W1<W1:=z
    lia
 ·intro hx
  refine⟨?_,by unfold tP;rw[decide_eq_true hx];rfl⟩
  by_cases ha:x.u=true/\x.x=W1
  ·have ok:=ok_u (h1.g.ok x hx) ha.1
   refine⟨btQ W1 qs1 qs2 x.y.toNat,pj.mem_iff.mpr (jn_mem.mpr (.inr (.inl ?_))),?_⟩
   ·unfold bwQ
    exact List.mem_map_of_mem (List.mem_range.mpr (by lia))
   ·have ey:((x.y.toNat:Nat):Int)=x.y:=by lia
    have hat:atL W1 (btQ W1 qs1 qs2 x.y.toNat)=true:=atL_iff.mpr ⟨rfl,rfl⟩
    unfold cl1
    rw[if_pos hat]
    unfold btQ
    dsimp only
    rw[ey,fcO_of h1.g.nd hx ⟨ha.1,ha.2,rfl⟩]
    congr 1
    exact sq_ext ha.1.symm ha.2.symm rfl rfl (ok.2.2.2.2.2 ha.2).symm
  ·have m:x∈lfQ W1 qs1:=List.mem_filter.mpr ⟨hx,nat_iff.mpr ha⟩
   refine⟨x,pj.mem_iff.mpr (jn_mem.mpr (.inl m)),?_⟩
   unfold cl1
   rw[if_neg (fun z=>ha (atL_iff.mp z)),if_pos (lf_x h1.g m).2]
theorem told_r {W1 W2 H:Nat}{qs1 qs2 js rs:List Sq}(h1:HQ W1 H qs1)(h2:HQ W2 H qs2)(hs:srtQ qs2=qs2.map Sq.s)(pj:js.Perm (jnQ W1 H qs1 qs2))(n:Nx W2 H (crQ W1 js) rs):rs.filter (tP qs2)=qs2:=by
 refine same_of ?_ (srt_pw hs.symm) ((List.perm_ext_iff_of_nodup ((List.filter_sublist).nodup (nd_list n.h.g.nd)) (nd_list h2.g.nd)).mpr fun x=>?_)
 ·exact List.Pairwise.sublist ((List.filter_sublist (p:=tP qs2) (l:=rs)).map fun(q:Sq)=>Qg q.s.d) (srt_pw n.s)
 rw[List.mem_filter,n.p.mem_iff]
 unfold crQ
 rw[List.mem_filterMap]
 constructor
 ·rintro⟨⟨q,hq,e⟩,hp⟩
  rcases jn_mem.mp (pj.mem_iff.mp hq) with m|m|m
  ·obtain⟨m1,m2⟩:=lf_x h1.g m
   rcases cr1_of e with⟨_,z,_⟩|⟨_,z,_⟩
   ·lia
   ·lia
  ·obtain⟨y,hy,rfl⟩:=bw_x m
   rcases cr1_of e with⟨_,_,rfl⟩|⟨z,_,_⟩
   ·dsimp only at hp ⊢
    cases f:qs2.find? (isE 0 y) with
    |some r =>
     have hr:=isE_iff.mp (List.find?_some f)
     have hm:=List.mem_of_find?_eq_some f
     have:=(ok_u (h2.g.ok r hm) hr.1).2.2.2.2.1 hr.2.1
     rw[show(⟨true,0,(y:Int),cP,fcP qs2 0 y⟩:Sq)=r from sq_ext hr.1.symm hr.2.1.symm hr.2.2.symm this.symm (fcP_of h2.g.nd hm hr)]
     exact hm
    |none =>
     have:fcP qs2 0 y=cP:=by unfold fcP;rw[f]
     exact tP_pp hp rfl this
   ·exact(z ⟨rfl,rfl⟩).elim
  ·obtain⟨r,m1,rfl,m2,m3⟩:=rt_x h2.g m
   rcases cr1_of e with⟨z1,z2,_⟩|⟨_,z,rfl⟩
   ·have z2:r.x+W1=W1:=z2
    have:=m2 z1
    lia
   ·rw[show shQ (-(W1:Int)) (shQ W1 r)=r from sq_ext rfl (show r.x+W1 + -(W1:Int)=r.x by lia) rfl rfl rfl]
    exact m1
 ·intro hx
  refine⟨?_,by unfold tP;rw[decide_eq_true hx];rfl⟩
  by_cases ha:x.u=true/\x.x=0
  ·have ok:=ok_u (h2.g.ok x hx) ha.1
   refine⟨btQ W1 qs1 qs2 x.y.toNat,pj.mem_iff.mpr (jn_mem.mpr (.inr (.inl ?_))),?_⟩
   ·unfold bwQ
    exact List.mem_map_of_mem (List.mem_range.mpr (by lia))
   ·have ey:((x.y.toNat:Nat):Int)=x.y:=by lia
    have hat:atL W1 (btQ W1 qs1 qs2 x.y.toNat)=true:=atL_iff.mpr ⟨rfl,rfl⟩
    unfold cr1
    rw[if_pos hat]
    unfold btQ
    dsimp only
    rw[ey,fcP_of h2.g.nd hx ⟨ha.1,ha.2,rfl⟩]
    congr 1
    exact sq_ext ha.1.symm ha.2.symm rfl (ok.2.2.2.2.1 ha.2).symm rfl
  ·have m:shQ W1 x∈rtQ W1 qs2:=List.mem_map_of_mem (List.mem_filter.mpr ⟨hx,nat_iff.mpr ha⟩)
   refine⟨shQ W1 x,pj.mem_iff.mpr (jn_mem.mpr (.inr (.inr m))),?_⟩
   have x0:0<=x.x:=by
    cases hu:x.u with
    |true=>exact(ok_u (h2.g.ok x hx) hu).1
    |false=>exact(ok_f (h2.g.ok x hx) hu).1
   unfold cr1
   rw[if_neg (fun z=>ha (by have z:=atL_iff.mp z;exact⟨z.1,by have:x.x+W1=W1:=z.2;lia⟩)),if_neg (show ¬(shQ (W1:Int) x).x<W1 by show ¬x.x+(W1:Int)<W1;lia)]
   congr 1
   exact sq_ext rfl (show x.x+W1 + -(W1:Int)=x.x by lia) rfl rfl rfl
end Law
set_option maxRecDepth 100000
set_option maxHeartbeats 4000000
set_option linter.all false
namespace Law
open PySem L2 DL
theorem hall_of (c:Int){W H:Nat}(hW:1<=W)(hW':W<=8)(hH:1<=H)(hH':H<=8):∃qs:List Sq,HQ W H qs/\qs.length<=160/\srtQ qs=qs.map Sq.s/\F_l_hall [.int c,.int (W:Int),.int (H:Int)]=.ok (.im (Zm W H qs)):=by
 obtain⟨ss,⟨s0,hs0⟩,hs,fh⟩:=f_hall c hW hW' hH hH'
 obtain⟨qs,rfl,gq⟩:=good_Q hs.w1 hs.h1 hs.g
 have hl:=hs.l
 rw[List.length_map] at hl
 refine⟨qs,⟨hs.w1,hs.w2,hs.h1,hs.h2,gq,by lia⟩,hl,?_,fh⟩
 obtain⟨q0,rfl,_⟩:∃q0:List Sq,s0=q0.map Sq.s/\True:=by
  have g0:Good W H s0:=hs.g.perm (by rw[hs0];exact(srt_perm s0).symm)
  obtain⟨q0,e,_⟩:=good_Q hs.w1 hs.h1 g0
  exact⟨q0,e,trivial⟩
 have p:qs.Perm q0:=perm_q (by rw[hs0];exact srt_perm _)
 rw[sort_perm p,hs0]
 rfl
theorem HQ.perm {W H:Nat}{qs rs:List Sq}(h:HQ W H qs)(p:rs.Perm qs):HQ W H rs :=
 ⟨h.w1,h.w2,h.h1,h.h2,⟨fun q hq=>h.g.ok q (p.mem_iff.mp hq),(p.map Sq.e).nodup_iff.mpr h.g.nd⟩,by rw[p.length_eq];exact h.l⟩
theorem ask_one {W H:Nat}{qs rs:List Sq}(h:HQ W H qs)(p:rs.Perm qs)(d:D):∃due,F_l_cut [Zm W H qs,d]=.ok (.im due)/\Ye [Zm W H rs,d,due]=.ok (.im (.bl true)):=by
 cases hi:inR d 1 ((W:Int) - 1) with
 |false=>exact⟨.non,f_lcut_no hi,f_askc (.inr ⟨f_cut_no hi,rfl⟩)⟩
 |true =>
  obtain⟨z,rfl⟩:∃z,d=.int z:=by
   cases d with
   |int z=>exact⟨z,rfl⟩
   |_=>cases hi
  unfold inR at hi
  dsimp only at hi
  rw[Bool.and_eq_true,decide_eq_true_eq,decide_eq_true_eq] at hi
  obtain⟨k,rfl⟩:∃k:Nat,z=(k:Int):=⟨z.toNat,by lia⟩
  obtain⟨ls,ms,n⟩:=cn_of h (k:=k) (by lia) (by lia)
  have n':CN W H k rs ls ms:=⟨⟨n.l.h,n.l.p.trans (p.filterMap _).symm,n.l.s.trans (sort_perm (p.filterMap _)).symm⟩,⟨n.r.h,n.r.p.trans (p.filterMap _).symm,n.r.s.trans (sort_perm (p.filterMap _)).symm⟩⟩
  refine⟨_,f_lcut h (by lia) (by lia) n,f_askc (.inl ⟨f_cut (h.perm p) (by lia) (by lia) n',rfl,?_,rfl⟩)⟩
  have:=hallQ_dep k H ls
  have:=hallQ_dep (W - k) H ms
  simp only[D.dep,D.deps]
  lia
noncomputable def akB:DSt->M O:=(sIf (DL.tN (DL.tB (eCallF Ye (Zb (eOp gIx (Zd 7) (eC (.int 0))) (Zb (Zd 9) (Zb (Z0 F_l_cut (Zb (Zd 4) (Zb (Zd 9) Zj))) Zj)))))) (Qs (eC (.bl false))) Yl)
theorem callF_ok {F:List D->M S}{fs:DSt->M (List D)}{sd:DSt}{ds:List D}{d:D}(h1:fs sd=.ok ds)(h2:F ds=.ok (.im d)):eCallF F fs sd=.ok d:=by
 unfold eCallF
 rw[h1,M.bind_ok,h2]
theorem ak_loop {W H:Nat}{qs rs:List Sq}(h:HQ W H qs)(p:rs.Perm qs){hB:D}(v0 v1 v2 v3 v5 v6 v8 v10 v11:Option S):∀(ds:List D) (v9:Option S),∃w9,
  Q0 (gNm 9) akB ds [v0,v1,v2,v3,some (.im (Zm W H qs)),v5,v6,some (.im (.lst [Zm W H rs,hB])),v8,v9,v10,v11]=.ok (.nx [v0,v1,v2,v3,some (.im (Zm W H qs)),v5,v6,some (.im (.lst [Zm W H rs,hB])),v8,w9,v10,v11])
 |[],v9=>⟨v9,rfl⟩
 |d::ds,v9=>by
  obtain⟨due,e1,e2⟩:=ask_one h p d
  obtain⟨w9,e⟩:=ak_loop h p (hB:=hB) v0 v1 v2 v3 v5 v6 v8 v10 v11 ds (some (.im d))
  refine⟨w9,?_⟩
  generalize Zm W H qs=a at e1 e ⊢
  generalize Zm W H rs=b at e2 e ⊢
  have i0:gIx (.lst [b,hB]) (.int 0)=.ok b:=by simp[gIx,atI0]
  exact(Yv (sd1:=[v0,v1,v2,v3,some (.im a),v5,v6,some (.im (.lst [b,hB])),v8,some (.im d),v10,v11]) rfl (Qc ((tN_b (Qh (callF_ok (aC (Zg rfl rfl i0) (aC rfl (a1 (Zv (aC rfl (a1 rfl)) e1 rfl)))) e2))).trans rfl))).trans e
theorem lst_of {fs:DSt->M (List D)}{sd:DSt}{ds:List D}(h:fs sd=.ok ds)(hf:few ds=true):Xb fs sd=.ok (.lst ds):=by
 unfold Xb
 rw[h,M.bind_ok,if_pos hf]
theorem ask_j {W1 H1 W2 H2:Nat}{q1 q2 r1 r2:List Sq}(h1:HQ W1 H1 q1)(h2:HQ W2 H2 q2)(l1:q1.length<=160)(l2:q2.length<=160)(p1:r1.Perm q1)(p2:r2.Perm q2):∃due,F_l_joined [Zm W1 H1 q1,Zm W2 H2 q2]=.ok (.im due)/\Q8 [Zm W1 H1 r1,Zm W2 H2 r2,due]=.ok (.im (.bl true)) /\
  (due=.non\/(H1=H2/\∃js,Nx (W1+W2) H1 (jnQ W1 H1 q1 q2) js/\due=Zm (W1+W2) H1 js/\Qv [Zm W1 H1 q1,Zm W2 H2 q2]=.ok (.im due))):=by
 have lj:=f_ljoined h1 h2 (by lia) (by lia)
 have fj:=f_joinedP h1 h2 (by lia) (by lia)
 have gj:=f_joinedP (h1.perm p1) (h2.perm p2) (by rw[p1.length_eq];lia) (by rw[p2.length_eq];lia)
 cases j:jOK W1 H1 W2 H2 with
 |false =>
  rw[j,if_neg Bool.false_ne_true] at lj
  exact⟨_,lj,f_askj (.inr ⟨gj.2 j,rfl⟩),.inl rfl⟩
 |true =>
  rw[j,if_pos rfl] at lj
  have gj:=gj.1 j
  have fj:=fj.1 j
  rw[sort_perm (jn_perm h1.g.nd h2.g.nd p1 p2)] at gj
  unfold jOK at j
  rw[Bool.and_eq_true,decide_eq_true_eq,decide_eq_true_eq] at j
  obtain⟨rfl,hw⟩:=j
  have jl:=jn_len (W1:=(W1:Int)) (H:=H1) (qs1:=q1) (qs2:=q2)
  have a1:=h1.w1
  have a2:=h1.h2
  obtain⟨js,n⟩:=nx_of (W:=W1+W2) (H:=H1) (qs:=jnQ W1 H1 q1 q2) ⟨by lia,hw,h1.h1,h1.h2,jn_good h1.w1 h2.w1 h1.g h2.g,by lia⟩
  rw[nx_hall n] at lj gj fj
  have dp:=hallQ_dep (W1+W2) H1 js
  exact⟨_,lj,f_askj (.inl ⟨gj,by rw[hallQ_d];rfl,by lia,by rw[hallQ_d];rfl⟩),.inr ⟨rfl,js,n,rfl,fj⟩⟩
theorem step_of {st:Int}(hst:st=1\/st = -1)(W H:Nat)(qs:List Sq):∃rs:List Sq,rs.Perm qs/\∀r:List (Option S),Qn (Zb (eOp gIx (Zd 0) (eC (.int 0))) (Zb (eOp gIx (Zd 0) (eC (.int 1))) (Zb (eStep (eOp gIx (Zd 0) (eC (.int 2))) (Zd 1)) Zj))) (some (.im (Zm W H qs))::some (.im (.int st))::r)=.ok (Zm W H rs):=by
 have e0:=hq0 W H qs
 have e1:=hq1 W H qs
 have e2:=hq2 W H qs
 generalize Zm W H qs=a at e0 e1 e2 ⊢
 rcases hst with rfl|rfl
 ·refine⟨qs,.refl _,fun r=>?_⟩
  rw[hallQ_d]
  refine tup3 (Zg rfl rfl e0) (Zg rfl rfl e1) ?_
  unfold eStep
  rw[Zg rfl rfl e2]
  rfl
 ·refine⟨qs.reverse,List.reverse_perm _,fun r=>?_⟩
  rw[hallQ_d,List.map_reverse]
  refine tup3 (Zg rfl rfl e0) (Zg rfl rfl e1) ?_
  unfold eStep
  rw[Zg rfl rfl e2]
  rfl
theorem law_true (ns:List Int)(hns:ns.length<=63):F_law [.lst (ns.map D.int)]=.ok (.im (.bl true)):=by
 obtain⟨es,hes,_,en⟩:=f_numbers (cz ns 0) 5 (by lia)
 obtain⟨a,b,c,d,e,rfl⟩:∃a b c d e,es=[a,b,c,d,e]:=by
  match es,hes with
  |[a,b,c,d,e],_=>exact⟨a,b,c,d,e,rfl⟩
 have y0:gIx (.lst ([a,b,c,d,e].map D.int)) (.int 0)=.ok (.int a):=rfl
 have y1:gIx (.lst ([a,b,c,d,e].map D.int)) (.int 1)=.ok (.int b):=rfl
 have y2:gIx (.lst ([a,b,c,d,e].map D.int)) (.int 2)=.ok (.int c):=rfl
 have y3:gIx (.lst ([a,b,c,d,e].map D.int)) (.int 3)=.ok (.int d):=rfl
 have y4:gIx (.lst ([a,b,c,d,e].map D.int)) (.int 4)=.ok (.int e):=rfl
 generalize ([a,b,c,d,e].map D.int)=ys at en y0 y1 y2 y3 y4
 obtain⟨m,hm1,hm8,em⟩:∃m:Nat,1<=m/\m<=8/\gIx (.lst [.int 4,.int 8]) (.int (c % 2))=.ok (.int (m:Int)):=by
  have:c % 2=0\/c % 2=1:=by lia
  rcases this with h|h
  ·exact⟨4,by decide,by decide,by rw[h];rfl⟩
  ·exact⟨8,by decide,by decide,by rw[h];rfl⟩
 obtain⟨w1,ew1,hw1⟩:=mod_nat a hm1
 obtain⟨w2,ew2,hw2⟩:=mod_nat b hm1
 obtain⟨k1,ek1,hk1⟩:=mod_nat d (m:=8) (by lia)
 obtain⟨k2,ek2,hk2⟩:=mod_nat e (m:=8) (by lia)
 have ek1:d % 8=(k1:Int):=ek1
 have ek2:e % 8=(k2:Int):=ek2
 have m0:(0:Int)<(m:Int):=by lia
 obtain⟨st,est,hst⟩:∃st:Int,gIx (.lst [.int 1,.int (-1)]) (.int (c / 8 % 2))=.ok (.int st)/\(st=1\/st = -1):=by
  have:c / 8 % 2=0\/c / 8 % 2=1:=by lia
  rcases this with h|h
  ·exact⟨1,by rw[h];rfl,.inl rfl⟩
  ·exact⟨-1,by rw[h];rfl,.inr rfl⟩
 obtain⟨H2,hH21,hH28,eH⟩:∃H2:Nat,1<=H2/\H2<=8/\(sIf (DL.tB (eOp gGt (eOp Qz (eOp gFdiv (eOp gIx (Zd 1) (eC (.int 2))) (eC (.int 2))) (eC (.int 4))) (eC (.int 0)))) (sLPut 3 (eC (.int 1)) (eOIx 3 (eC (.int 0)))) Yl) [some (.im (.lst (ns.map D.int))),some (.im (.lst ys)),some (.im (.lst [.int ((1+w1:Nat):Int),.int ((1+w2:Nat):Int)])),some (.ow [.int ((1+k1:Nat):Int),.int ((1+k2:Nat):Int)]),none,none,none,none,none,none,none,none]=.ok (.nx [some (.im (.lst (ns.map D.int))),some (.im (.lst ys)),some (.im (.lst [.int ((1+w1:Nat):Int),.int ((1+w2:Nat):Int)])),some (.ow [.int ((1+k1:Nat):Int),.int (H2:Int)]),none,none,none,none,none,none,none,none]):=by
  have t:DL.tB (eOp gGt (eOp Qz (eOp gFdiv (eOp gIx (Zd 1) (eC (.int 2))) (eC (.int 2))) (eC (.int 4))) (eC (.int 0))) [some (.im (.lst (ns.map D.int))),some (.im (.lst ys)),some (.im (.lst [.int ((1+w1:Nat):Int),.int ((1+w2:Nat):Int)])),some (.ow [.int ((1+k1:Nat):Int),.int ((1+k2:Nat):Int)]),none,none,none,none,none,none,none,none]=.ok (decide (c / 2 % 4 > 0)) :=
   Qh (Zg (Zg (Zg (Zg rfl rfl y2) rfl (gFd (by decide) (smI (by decide) (by decide)))) rfl (gM (by decide))) rfl rfl)
  by_cases hc:c / 2 % 4 > 0
  ·rw[decide_eq_true hc] at t
   exact⟨1+k1,by lia,by lia,Z2 t rfl⟩
  ·rw[decide_eq_false hc] at t
   exact⟨1+k2,by lia,by lia,Qc t⟩
 obtain⟨q1,h1,l1,s1,f1⟩:=hall_of (cz ns 1) (W:=1+w1) (H:=1+k1) (by lia) (by lia) (by lia) (by lia)
 obtain⟨q2,h2,l2,s2,f2⟩:=hall_of (cz ns 2) (W:=1+w2) (H:=H2) (by lia) (by lia) hH21 hH28
 have c0:=f_cell ns hns 0
 have c1:=f_cell ns hns 1
 have c2:=f_cell ns hns 2
 have c3:=f_cell ns hns 3
 have ww:∀(i:Int) (x:Int) (w:Nat) (r:List (Option S)),gIx (.lst ys) (.int i)=.ok (.int x)->x % (m:Int)=(w:Int)->eOp Zu (eC (.int 1)) (eOp Qz (eOp gIx (Zd 1) (eC (.int i))) (eOp gIx (Xb (Zb (eC (.int 4)) (Zb (eC (.int 8)) Zj))) (eOp Qz (eOp gIx (Zd 1) (eC (.int 2))) (eC (.int 2))))) (some (.im (.lst (ns.map D.int)))::some (.im (.lst ys))::r)=.ok (.int ((1+w:Nat):Int)):=fun i x w r hy hx=>by
  refine(Zg rfl (Zg (Zg rfl rfl hy) (Zg (show _=M.ok (D.lst [.int 4,.int 8]) from rfl) (Zg (Zg rfl rfl y2) rfl (gM (by decide))) em) (gM m0)) rfl).trans ?_
  show M.ok (D.int (1+x % (m:Int)))=_
  rw[hx]
  congr 2
 have hh:∀(i:Int) (x:Int) (w:Nat) (r:List (Option S)),gIx (.lst ys) (.int i)=.ok (.int x)->x % 8=(w:Int)->eOp Zu (eC (.int 1)) (eOp Qz (eOp gIx (Zd 1) (eC (.int i))) (eC (.int 8))) (some (.im (.lst (ns.map D.int)))::some (.im (.lst ys))::r)=.ok (.int ((1+w:Nat):Int)):=fun i x w r hy hx=>by
  refine(Zg rfl (Zg (Zg rfl rfl hy) rfl (gM (by decide))) rfl).trans ?_
  show M.ok (D.int (1+x % 8))=_
  rw[hx]
  congr 2
 have ls2:∀(r:List (Option S)),Xb (Zb (eOp Zu (eC (.int 1)) (eOp Qz (eOp gIx (Zd 1) (eC (.int 0))) (eOp gIx (Xb (Zb (eC (.int 4)) (Zb (eC (.int 8)) Zj))) (eOp Qz (eOp gIx (Zd 1) (eC (.int 2))) (eC (.int 2)))))) (Zb (eOp Zu (eC (.int 1)) (eOp Qz (eOp gIx (Zd 1) (eC (.int 1))) (eOp gIx (Xb (Zb (eC (.int 4)) (Zb (eC (.int 8)) Zj))) (eOp Qz (eOp gIx (Zd 1) (eC (.int 2))) (eC (.int 2)))))) Zj)) (some (.im (.lst (ns.map D.int)))::some (.im (.lst ys))::r)=.ok (.lst [.int ((1+w1:Nat):Int),.int ((1+w2:Nat):Int)]):=fun r=>by
  exact lst_of (aC (ww 0 a w1 _ y0 ew1) (a1 (ww 1 b w2 _ y1 ew2))) rfl
 have ls3:∀(r:List (Option S)),fLst (Zb (eOp Zu (eC (.int 1)) (eOp Qz (eOp gIx (Zd 1) (eC (.int 3))) (eC (.int 8)))) (Zb (eOp Zu (eC (.int 1)) (eOp Qz (eOp gIx (Zd 1) (eC (.int 4))) (eC (.int 8)))) Zj)) (some (.im (.lst (ns.map D.int)))::some (.im (.lst ys))::r)=.ok [.int ((1+k1:Nat):Int),.int ((1+k2:Nat):Int)]:=fun r=>by
  unfold fLst
  rw[aC (hh 3 d k1 _ y3 ek1) (a1 (hh 4 e k2 _ y4 ek2))]
  rfl
 obtain⟨r1,p1,er1⟩:∃r1:List Sq,r1.Perm q1/\∀r:List (Option S),Qn (Zb (eOp gIx (Zd 0) (eC (.int 0))) (Zb (eOp gIx (Zd 0) (eC (.int 1))) (Zb (eStep (eOp gIx (Zd 0) (eC (.int 2))) (Zd 1)) Zj))) (some (.im (Zm (1+w1) (1+k1) q1))::some (.im (.int st))::r)=.ok (Zm (1+w1) (1+k1) r1):=step_of hst _ _ _
 obtain⟨r2,p2,er2⟩:∃r2:List Sq,r2.Perm q2/\∀r:List (Option S),Qn (Zb (eOp gIx (Zd 0) (eC (.int 0))) (Zb (eOp gIx (Zd 0) (eC (.int 1))) (Zb (eStep (eOp gIx (Zd 0) (eC (.int 2))) (Zd 1)) Zj))) (some (.im (Zm (1+w2) H2 q2))::some (.im (.int st))::r)=.ok (Zm (1+w2) H2 r2):=step_of hst _ _ _
 obtain⟨due,lj,aj,hd⟩:=ask_j h1 h2 l1 l2 p1 p2
 have W0:(0:Int)<((1+w1:Nat):Int):=by lia
 have x0:gIx (.lst [.int ((1+w1:Nat):Int),.int ((1+w2:Nat):Int)]) (.int 0)=.ok (.int ((1+w1:Nat):Int)):=rfl
 have x1:gIx (.lst [.int ((1+w1:Nat):Int),.int ((1+w2:Nat):Int)]) (.int 1)=.ok (.int ((1+w2:Nat):Int)):=rfl
 have z0:gIx (.lst [.int ((1+k1:Nat):Int),.int (H2:Int)]) (.int 0)=.ok (.int ((1+k1:Nat):Int)):=rfl
 have z1:gIx (.lst [.int ((1+k1:Nat):Int),.int (H2:Int)]) (.int 1)=.ok (.int (H2:Int)):=rfl
 generalize D.lst [.int ((1+w1:Nat):Int),.int ((1+w2:Nat):Int)]=ws at ls2 eH x0 x1
 obtain⟨a9,pw9⟩:∃x,gPow (.int 10) (.int 9)=.ok (.int x):=⟨_,rfl⟩
 obtain⟨a12,pw12⟩:∃x,gPow (.int 10) (.int 12)=.ok (.int x):=⟨_,rfl⟩
 obtain⟨d7,hl7,pl7⟩:∃d7:List D,d7.length=7/\∀r:List (Option S),Xb (Zb (eOp Qz (Z0 F_l_cell (Zb (Zd 0) (Zb (eC (.int 3)) Zj))) (eOp gIx (Zd 2) (eC (.int 0)))) (Zb (eOp gIx (Zd 2) (eC (.int 0))) (Zb (eC (.int 0)) (Zb (eUn gNeg (eC (.int 1))) (Zb (eUn gNeg (eOp gPow (eC (.int 10)) (eC (.int 9)))) (Zb (eOp Zu (eC (.int 1)) (eOp gFdiv (eOp gIx (Zd 2) (eC (.int 0))) (eC (.int 2)))) (Zb (eOp gPow (eC (.int 10)) (eC (.int 12))) Zj))))))) (some (.im (.lst (ns.map D.int)))::some (.im (.lst ys))::some (.im ws)::r)=.ok (.lst d7):=by
  refine⟨[.int (cz ns 3 % ((1+w1:Nat):Int)),.int ((1+w1:Nat):Int),.int 0,.int (-1),.int (-a9),.int (1+((1+w1:Nat):Int) / 2),.int a12],rfl,fun r=>lst_of (aC (Zg (Zv (aC rfl (a1 rfl)) c3 rfl) (Zg rfl rfl x0) (gM W0)) (aC (Zg rfl rfl x0) (aC rfl (aC rfl (aC ?_ (aC (Zg rfl (Zg (Zg rfl rfl x0) rfl (gFd (by decide) (smI (by decide) (by decide)))) rfl) (a1 (Zg rfl rfl pw12)))))))) rfl⟩
  unfold eUn
  rw[Zg rfl rfl pw9]
  rfl
 obtain⟨d5,hl5,pl5⟩:∃d5:List D,d5.length=5/\∀sd:DSt,Xb (Zb (eC (.bl true)) (Zb (eC (.bl false)) (Zb (eC .non) (Zb (eC (.str (Str.ofString "1"))) (Zb (Qn (Zb (eC (.int 1)) (Zb (eC (.int 1)) Zj))) Zj))))) sd=.ok (.lst d5):=⟨[.bl true,.bl false,.non,.str (Str.ofString "1"),.tup [.int 1,.int 1]],rfl,fun sd=>lst_of (aC rfl (aC rfl (aC rfl (aC rfl (a1 (tup2 rfl rfl)))))) rfl⟩
 have pl:Zu (.lst d7) (.lst d5)=.ok (.lst (d7++d5)):=plus_l (by lia)
 obtain⟨w9,lp⟩:=ak_loop h1 p1 (hB:=Zm (1+w2) H2 r2) (some (.im (.lst (ns.map D.int)))) (some (.im (.lst ys))) (some (.im ws)) (some (.im (.lst [.int ((1+k1:Nat):Int),.int (H2:Int)]))) (some (.im (Zm (1+w2) H2 q2))) (some (.im (.int st))) (some (.im (.lst d7))) none none (d7++d5) none
 have stp:∀r:List (Option S),eOp gIx (Xb (Zb (eC (.int 1)) (Zb (eUn gNeg (eC (.int 1))) Zj))) (eOp Qz (eOp gFdiv (eOp gIx (Zd 1) (eC (.int 2))) (eC (.int 8))) (eC (.int 2))) (some (.im (.lst (ns.map D.int)))::some (.im (.lst ys))::r)=.ok (.int st):=fun r=>Zg (show _=M.ok (D.lst [.int 1,.int (-1)]) from rfl) (Zg (Zg (Zg rfl rfl y2) rfl (gFd (by decide) (smI (by decide) (by decide)))) rfl (gM (by decide))) est
 have fin:due=.non\/∃cA cB:D,Qv [Zm (1+w1) (1+k1) q1,Zm (1+w2) H2 q2]=.ok (.im due)/\due.isN=false/\F_cut [due,.int ((1+w1:Nat):Int)]=.ok (.im (.tup [cA,cB]))/\F_l_told [cA,Zm (1+w1) (1+k1) q1]=.ok (.im (.bl true))/\F_l_told [cB,Zm (1+w2) H2 q2]=.ok (.im (.bl true)):=by
  rcases hd with hd|⟨hh,js,n,rfl,fj⟩
  ·exact .inl hd
  ·subst hh
   have w21:=h2.w1
   obtain⟨la,lb,cn⟩:=cn_of n.h (k:=1+w1) (by lia) (by lia)
   have fc:=f_cut n.h (k:=1+w1) (by lia) (by lia) cn
   have ew:1+w1+(1+w2) - (1+w1)=1+w2:=by lia
   have cr:=cn.r
   rw[ew] at fc cr
   exact .inr ⟨_,_,fj,by rw[hallQ_d];rfl,fc,f_told cn.l.h.l (told_l h1 h2 s1 n.p cn.l),f_told cr.h.l (told_r h1 h2 s2 n.p cr)⟩
 generalize Zm (1+w1) (1+k1) q1=A at f1 er1 lj lp fin
 generalize Zm (1+w2) H2 q2=B at f2 er2 lj lp fin
 generalize Zm (1+w1) (1+k1) r1=A' at er1 aj lp
 generalize Zm (1+w2) H2 r2=B' at er2 aj lp
 have i0:gIx (.lst [A',B']) (.int 0)=.ok A':=rfl
 have i1:gIx (.lst [A',B']) (.int 1)=.ok B':=rfl
 have cm:∀(v0 v1 v2 v3:Option S) (r:List (Option S)),eNew (fComp (iSeq (Xb (Zb (Zd 4) (Zb (Zd 5) Zj)))) 1 [6] (gNm 0) (Qn (Zb (eOp gIx (Zd 0) (eC (.int 0))) (Zb (eOp gIx (Zd 0) (eC (.int 1))) (Zb (eStep (eOp gIx (Zd 0) (eC (.int 2))) (Zd 1)) Zj))))) (v0::v1::v2::v3::some (.im A)::some (.im B)::some (.im (.int st))::r)=.ok (.lst [A',B']):=fun v0 v1 v2 v3 r=>by
  refine comp_ok (α:=D×D) (l:=[(A,A'),(B,B')]) Prod.fst Prod.snd (seq_l (lst_of (aC rfl (a1 rfl)) rfl)) (show 2<=1000 by decide) fun x hx=>?_
  refine⟨[some (.im x.1),some (.im (.int st))],rfl,?_⟩
  simp only[List.mem_cons,List.not_mem_nil,or_false] at hx
  rcases hx with rfl|rfl
  ·exact er1 []
  ·exact er2 []
 refine(fn1 _ _ _).trans (Ql (go (Qo (Zv (aC (Zv (aC rfl (a1 rfl)) c0 rfl) (a1 rfl)) en rfl)) (go (Qo (ls2 _)) (go (own_ok (ls3 _)) (go eH (go (Qo (Zv (aC (Zv (aC rfl (a1 rfl)) c1 rfl) (aC (Zg rfl rfl x0) (a1 (Zg rfl rfl z0)))) f1 rfl)) (go (Qo (Zv (aC (Zv (aC rfl (a1 rfl)) c2 rfl) (aC (Zg rfl rfl x1) (a1 (Zg rfl rfl z1)))) f2 rfl)) (go (Qo (stp _)) (go (Qo (cm _ _ _ _ _)) (go (Qc ((tN_b (Qh (callF_ok (aC (Zg rfl rfl i0) (aC (Zg rfl rfl i1) (a1 (Zv (aC rfl (a1 rfl)) lj rfl)))) aj))).trans rfl)) (go (Qo (pl7 _)) (go ((Q5 (seq_l (Zg rfl (pl5 _) pl))).trans lp) ?_))))))))))))
 rcases fin with rfl|⟨cA,cB,fj,hn,fc,ta,tb⟩
 ·exact Q4 (Z2 (Qh (Zg (Zv (aC rfl (a1 rfl)) lj rfl) rfl rfl)) (Z3 rfl))
 ·refine go (Qc (Qh (Zg (Zv (aC rfl (a1 rfl)) lj rfl) rfl (show _=M.ok (D.bl false) from by show M.ok (D.bl due.isN)=_;rw[hn])))) (go (sd':=[some (.im (.lst (ns.map D.int))),some (.im (.lst ys)),some (.im ws),some (.im (.lst [.int ((1+k1:Nat):Int),.int (H2:Int)])),some (.im A),some (.im B),some (.im (.int st)),some (.im (.lst [A',B'])),some (.im (.lst d7)),w9,some (.im cA),some (.im cB)]) ?_ (Z3 (and_ok (Zv (aC rfl (a1 rfl)) ta rfl) (Zv (aC rfl (a1 rfl)) tb rfl))))
  unfold sAsg
  rw[callX_ok (aC (callX_ok (aC rfl (a1 rfl)) fj rfl) (a1 (Zg rfl rfl x0))) fc rfl]
  rfl
end Law
noncomputable def PySem.W.Fast.tw2976672156551258186 : Nat := 0
noncomputable def PySem.W.Fast.tw5877467883720027257 : Nat := 0
noncomputable def PySem.W.Fast.tw7487156717445026130 : Nat := 0
noncomputable def PySem.W.Fast.tw1944202659368784692 : Nat := 0
noncomputable def PySem.W.Fast.tw2024636464887708323 : Nat := 0
noncomputable def PySem.W.Fast.tw8711630848543928737 : Nat := 0
noncomputable def PySem.W.Fast.tw13714448705246707787 : Nat := 0
noncomputable def PySem.W.Fast.tw17578101195636868781 : Nat := 0
noncomputable def PySem.W.Fast.tw15828497258011086616 : Nat := 0
noncomputable def PySem.W.Fast.tw8276908248657243987 : Nat := 0
noncomputable def PySem.W.Fast.tw4291395683939609936 : Nat := 0
noncomputable def PySem.W.Fast.tw13845037269075218438 : Nat := 0
open PySem PySem.W PyProof.Rows
-- LAST
set_option maxRecDepth 100000 in
set_option maxHeartbeats 0 in
theorem PySem.Challenge.cw_selfsight_k46_joined_and_cut_holds : PySem.Challenge.rw_selfsight_k46_joined_and_cut.Holds := by
  w_on; o_law; k_head; (case hw => w_witness2)
  k_fill
  refine Law.walk (l := PySem.Challenge.rw_selfsight_k46_joined_and_cut) rfl rfl Law.law_true (fun w h Y => PySem.W.kIn_of Y) ?F
  case F =>
    intro w mg fa h KX G hmg
    refine' Law.all_mk KX G hmg ?a0 ?l0 ?c0 ?k0 ?a1 ?l1 ?c1 ?k1 ?a2 ?l2 ?c2 ?k2 ?a3 ?l3 ?c3 ?k3 ?a4 ?l4 ?c4 ?k4 ?a5 ?l5 ?c5 ?k5 ?a6 ?l6 ?c6 ?k6 ?a7 ?l7 ?c7 ?k7 ?a8 ?l8 ?c8 ?k8 ?a9 ?l9 ?c9 ?k9 ?a10 ?l10 ?c10 ?k10 ?a11 ?l11 ?c11 ?k11 ?a12 ?l12 ?c12 ?k12 ?a13 ?l13 ?c13 ?k13 ?a14 ?l14 ?c14 ?k14 ?a15 ?l15 ?c15 ?k15 ?a16 ?l16 ?c16 ?k16 ?a17 ?l17 ?c17 ?k17 ?a18 ?l18 ?c18 ?k18 ?a19 ?l19 ?c19 ?k19 ?a20 ?l20 ?c20 ?k20 ?a21 ?l21 ?c21 ?k21 ?a22 ?l22 ?c22 ?k22 ?ya_NoHall ?ya_NoPerson ?ya_NoName ?ya_NoHiding ?ya_NoText ?ya_NoRow ?ya_NoRing ?ya_SightError ?yd_NoHall ?yi_NoHall ?yl_NoHall ?yc_NoHall ?yk_NoHall ?yp_NoHall ?yf_NoHall ?yn_NoHall_side ?ye_NoHall ?yx_NoHall ?yt_NoHall ?ko_NoHall_NoPerson ?ko_NoHall_NoName ?ko_NoHall_NoHiding ?ko_NoHall_NoText ?ko_NoHall_NoRow ?ko_NoHall_NoRing ?ko_NoHall_NoHall ?ko_NoHall_ValueError ?hi_NoHall_SightError ?yg_GREATEST_SIZE ?yg_FACES ?yb_FACES ?z_isinstance ?z_int ?z_bool ?z_enumerate ?z_sorted ?z_tuple ?z_range ?z_len ?z_abs ?z_ValueError
    (case a0 => k_is)
    (case l0 => k_is)
    (case c0 => k_is)
    (case k0 => k_is)
    (case a1 => k_is)
    (case l1 => k_is)
    (case c1 => k_is)
    (case k1 => k_is)
    (case a2 => k_is)
    (case l2 => k_is)
    (case c2 => k_is)
    (case k2 => k_is)
    (case a3 => k_is)
    (case l3 => k_is)
    (case c3 => k_is)
    (case k3 => k_is)
    (case a4 => k_is)
    (case l4 => k_is)
    (case c4 => k_is)
    (case k4 => k_is)
    (case a5 => k_is)
    (case l5 => k_is)
    (case c5 => k_is)
    (case k5 => k_is)
    (case a6 => k_is)
    (case l6 => k_is)
    (case c6 => k_is)
    (case k6 => k_is)
    (case a7 => k_is)
    (case l7 => k_is)
    (case c7 => k_is)
    (case k7 => k_is)
    (case a8 => k_is)
    (case l8 => k_is)
    (case c8 => k_is)
    (case k8 => k_is)
    (case a9 => k_is)
    (case l9 => k_is)
    (case c9 => k_is)
    (case k9 => k_is)
    (case a10 => k_is)
    (case l10 => k_is)
    (case c10 => k_is)
    (case k10 => k_is)
    (case a11 => k_is)
    (case l11 => k_is)
    (case c11 => k_is)
    (case k11 => k_is)
    (case a12 => k_is)
    (case l12 => k_is)
    (case c12 => k_is)
    (case k12 => k_is)
    (case a13 => k_is)
    (case l13 => k_is)
    (case c13 => k_is)
    (case k13 => k_is)
    (case a14 => k_is)
    (case l14 => k_is)
    (case c14 => k_is)
    (case k14 => k_is)
    (case a15 => k_is)
    (case l15 => k_is)
    (case c15 => k_is)
    (case k15 => k_is)
    (case a16 => k_is)
    (case l16 => k_is)
    (case c16 => k_is)
    (case k16 => k_is)
    (case a17 => k_is)
    (case l17 => k_is)
    (case c17 => k_is)
    (case k17 => k_is)
    (case a18 => k_is)
    (case l18 => k_is)
    (case c18 => k_is)
    (case k18 => k_is)
    (case a19 => k_is)
    (case l19 => k_is)
    (case c19 => k_is)
    (case k19 => k_is)
    (case a20 => k_is)
    (case l20 => k_is)
    (case c20 => k_is)
    (case k20 => k_is)
    (case a21 => k_is)
    (case l21 => k_is)
    (case c21 => k_is)
    (case k21 => k_is)
    (case a22 => k_is)
    (case l22 => k_is)
    (case c22 => k_is)
    (case k22 => k_is)
    (case ya_NoHall => k_is)
    (case ya_NoPerson => k_is)
    (case ya_NoName => k_is)
    (case ya_NoHiding => k_is)
    (case ya_NoText => k_is)
    (case ya_NoRow => k_is)
    (case ya_NoRing => k_is)
    (case ya_SightError => k_is)
    (case yd_NoHall => k_is)
    (case yi_NoHall => k_is)
    (case yl_NoHall => k_is)
    (case yc_NoHall => k_is)
    (case yk_NoHall => k_is)
    (case yp_NoHall => k_is)
    (case yf_NoHall => k_is)
    (case yn_NoHall_side => k_is)
    (case ye_NoHall => kernel_rfl)
    (case yx_NoHall => kernel_rfl)
    (case yt_NoHall => kernel_rfl)
    (case ko_NoHall_NoPerson => kernel_rfl)
    (case ko_NoHall_NoName => kernel_rfl)
    (case ko_NoHall_NoHiding => kernel_rfl)
    (case ko_NoHall_NoText => kernel_rfl)
    (case ko_NoHall_NoRow => kernel_rfl)
    (case ko_NoHall_NoRing => kernel_rfl)
    (case ko_NoHall_NoHall => kernel_rfl)
    (case ko_NoHall_ValueError => kernel_rfl)
    (case hi_NoHall_SightError => kernel_rfl)
    (case yg_GREATEST_SIZE => k_is)
    (case yg_FACES => k_is)
    (case yb_FACES => kernel_rfl)
    (case z_isinstance => k_is)
    (case z_int => k_is)
    (case z_bool => k_is)
    (case z_enumerate => k_is)
    (case z_sorted => k_is)
    (case z_tuple => k_is)
    (case z_range => k_is)
    (case z_len => k_is)
    (case z_abs => k_is)
    (case z_ValueError => k_is)

