import PyProof.Rows.All
import Wide.All
import OpenK.AllK
import Wide.FinOn
import Lean
import PyProof.EqAt
import PyProof.EqKinds
import PyProof.TupleCall
import PyProof.NeKinds
import PyProof.NsDelKeeps
import PyProof.ExcArgs
import PyProof.ExcAttrAll.ValueError
import PyProof.Rows.SortRunsK
import PyProof.CompUse
import KE.KDictList
import PyProof.SetRoads
import PyProof.TupleKey
import PyProof.SetKind
import PySem.SetOps
import PyProof.Rows.SetFrom
import PySem.Challenge.RW_selfsight_k02_directions
set_option Elab.async false
set_option linter.all false
set_option maxRecDepth 100000
namespace L2
open PySem PySem.Spec PyProof.Rows

/-- a key: an int or a str -/
abbrev Key := Sum Int Str
def keyIs : Key → Value → Bool
  | .inl k, v => Value.isInt k v
  | .inr x, v => Value.isStrOf x v
def keyH (w : World) : Key → Int
  | .inl k => hashInt k
  | .inr x => hashStr w x
theorem keyIs_shape : ∀ {k : Key} {v : Value}, keyIs k v = true → (∃ i t, k = Sum.inl i ∧ v = Value.int i t) ∨ (∃ x t, k = Sum.inr x ∧ v = Value.str x t)
  | .inl i, v, h => by
    obtain ⟨t, e⟩ := Value.isInt_shape (k := i) (v := v) h
    exact .inl ⟨i, t, rfl, e⟩
  | .inr x, v, h => by
    obtain ⟨t, e⟩ := Value.isStrOf_shape (x := x) (v := v) h
    exact .inr ⟨x, t, rfl, e⟩
theorem keyIs_int (i : Int) (t : Tok) : keyIs (.inl i) (.int i t) = true := by simp [keyIs, Value.isInt]
theorem keyIs_str (x : Str) (t : Tok) : keyIs (.inr x) (.str x t) = true := by simp [keyIs, Value.isStrOf]
theorem key_ll (a b : Int) : decide ((Sum.inl a : Key) = Sum.inl b) = (a == b) := by
  by_cases e : a = b
  · subst e; simp
  · have h : ¬ (Sum.inl a : Key) = Sum.inl b := fun q => e (Sum.inl.inj q)
    rw [decide_eq_false h]
    exact (beq_eq_false_iff_ne.mpr e).symm
theorem key_rr (a b : Str) : decide ((Sum.inr a : Key) = Sum.inr b) = decide (a = b) := by
  by_cases e : a = b
  · subst e; simp
  · have h : ¬ (Sum.inr a : Key) = Sum.inr b := fun q => e (Sum.inr.inj q)
    rw [decide_eq_false h, decide_eq_false e]
theorem key_lr (a : Int) (b : Str) : decide ((Sum.inl a : Key) = Sum.inr b) = false := decide_eq_false (fun q => nomatch q)
theorem key_rl (a : Str) (b : Int) : decide ((Sum.inr a : Key) = Sum.inl b) = false := decide_eq_false (fun q => nomatch q)

def mixKind (prog : Program) (w : World) : PySem.KeyKind prog w Key where
  is := keyIs
  hash := keyH w
  inj := fun v a b ha hb => by
    rcases keyIs_shape ha with ⟨i, t, rfl, rfl⟩ | ⟨x, t, rfl, rfl⟩
    · rcases keyIs_shape hb with ⟨j, u, rfl, e⟩ | ⟨y, u, rfl, e⟩
      · injection e with e1 _; rw [e1]
      · exact nomatch e
    · rcases keyIs_shape hb with ⟨j, u, rfl, e⟩ | ⟨y, u, rfl, e⟩
      · exact nomatch e
      · injection e with e1 _; rw [e1]
  byValue := fun k v h => by
    rcases keyIs_shape h with ⟨i, t, rfl, rfl⟩ | ⟨x, t, rfl, rfl⟩ <;> rfl
  pyHash := fun hv h => by
    rcases keyIs_shape hv with ⟨i, t, rfl, rfl⟩ | ⟨x, t, rfl, rfl⟩
    · exact wpAny_pyHash_int h
    · exact wpAny_pyHash_str h
  eqBool := fun hu hv h => by
    rcases keyIs_shape hu with ⟨i, t, rfl, rfl⟩ | ⟨x, t, rfl, rfl⟩
    · rcases keyIs_shape hv with ⟨j, u, rfl, rfl⟩ | ⟨y, u, rfl, rfl⟩
      · rw [key_ll] at h; exact wpAny_eqBool_int h
      · rw [key_lr] at h; exact SeqAt.EqAt.int_str i t y u _ _ _ _ h
    · rcases keyIs_shape hv with ⟨j, u, rfl, rfl⟩ | ⟨y, u, rfl, rfl⟩
      · rw [key_rl] at h; exact SeqAt.EqAt.str_int x t j u _ _ _ _ h
      · rw [key_rr] at h; exact wpAny_eqBool_str h
  «strs» := fun k x t v h => by
    rcases keyIs_shape h with ⟨i, u, rfl, e⟩ | ⟨y, u, rfl, e⟩
    · exact nomatch e
    · injection e with e1 _
      subst e1
      cases v <;> rfl

theorem mixKind_int (prog : Program) (w : World) (i : Int) (t : Tok) : (mixKind prog w).is (.inl i) (.int i t) = true := keyIs_int i t
theorem mixKind_str (prog : Program) (w : World) (x : Str) (t : Tok) : (mixKind prog w).is (.inr x) (.str x t) = true := keyIs_str x t
end L2

namespace L2
open PySem PySem.Spec PyProof.Rows

/-- a value, without the heap -/
inductive V where
  | non | bl (b : Bool) | int (i : Int) | str (x : Str) | byt (b : Array UInt8) | flt (b : UInt64) | ref (a : Addr) | ty (n : String)
  deriving DecidableEq

def RelV : V → Value → Prop
  | .non, u => u = Value.none
  | .bl b, u => u = Value.bool b
  | .int i, u => ∃ t, u = Value.int i t
  | .str x, u => ∃ t, u = Value.str x t
  | .byt b, u => ∃ t, u = Value.bytes b t
  | .flt b, u => ∃ t, u = Value.float b t
  | .ref a, u => u = Value.ref a
  | .ty n, u => u = Value.type n

abbrev Vals : List V → List Value → Prop := Paired RelV
theorem Vals.length {xs : List V} {us : List Value} (r : Vals xs us) : xs.length = us.length := Paired.length r
theorem Vals.get : ∀ {xs : List V} {us : List Value} {i : Nat} {x : V}, Vals xs us → xs[i]? = some x → ∃ u, us[i]? = some u ∧ RelV x u
  | _, _, _, _, .nil, e => by simp at e
  | _, _, 0, _, .cons r _, e => by simp at e; subst e; exact ⟨_, rfl, r⟩
  | _, _, i + 1, x, .cons _ t, e => by
    obtain ⟨u, h1, h2⟩ := Vals.get (i := i) (x := x) t (by simpa using e)
    exact ⟨u, by simpa using h1, h2⟩
theorem Vals.set {x : V} {u : Value} (r : RelV x u) : ∀ {xs : List V} {us : List Value} (i : Nat), Vals xs us → Vals (xs.set i x) (us.set i u)
  | _, _, _, .nil => .nil
  | _, _, 0, .cons _ t => .cons r t
  | _, _, i + 1, .cons q t => .cons q (Vals.set r i t)
theorem Vals.append : ∀ {xs ys : List V} {us ws : List Value}, Vals xs us → Vals ys ws → Vals (xs ++ ys) (us ++ ws)
  | _, _, _, _, .nil, s => s
  | _, _, _, _, .cons r t, s => .cons r (Vals.append t s)
theorem Vals.take : ∀ {xs : List V} {us : List Value} (n : Nat), Vals xs us → Vals (xs.take n) (us.take n)
  | _, _, 0, _ => .nil
  | _, _, _ + 1, .nil => .nil
  | _, _, n + 1, .cons r t => .cons r (Vals.take n t)
theorem Vals.drop : ∀ {xs : List V} {us : List Value} (n : Nat), Vals xs us → Vals (xs.drop n) (us.drop n)
  | _, _, 0, r => r
  | _, _, _ + 1, .nil => .nil
  | _, _, n + 1, .cons _ t => Vals.drop n t
theorem Vals.none_of : ∀ {xs : List V} {us : List Value} {i : Nat}, Vals xs us → xs[i]? = none → us[i]? = none := fun {xs us i} r e => by
  have h1 := r.length
  have h2 : xs.length ≤ i := List.getElem?_eq_none_iff.mp e
  exact List.getElem?_eq_none_iff.mpr (by omega)

def RelO : Option V → Option Value → Prop
  | some v, some u => RelV v u
  | none, none => True
  | _, _ => False
def KV {κ : Type} : List (κ × V) → List (κ × Value) → Prop := Paired fun (p : κ × V) (q : κ × Value) => p.1 = q.1 ∧ RelV p.2 q.2

/-- a key of a dict (00_mix): an int or a text -/
def kV : Key → V
  | .inl i => .int i
  | .inr x => .str x

/-- what stands at a tracked address -/
inductive HO where
  /-- a list -/
  | lst (xs : List V)
  /-- a tuple (never changes) -/
  | tup (xs : List V)
  /-- a dict whose keys are ints and texts; one whose keys are tuples of ints and texts (the empty one is both) -/
  | dK (kvs : List (Key × V)) | dT (kvs : List (List Key × V))
  /-- a set of ints: its members, its size -/
  | set (S : Int → Bool) (n : Nat)
  /-- an instance of the class at C, its dict at dx, its attributes -/
  | ins (C dx : Addr) (fs : List (Str × V))
  /-- the dict of the instance at x -/
  | own (x : Addr)
  /-- the dict of an exception -/
  | xd (fs : List (Str × V))
  /-- a bound method, f of x -/
  | met (f x : Addr)
  /-- a range object lo, lo + 1, .. below hi -/
  | rng (lo hi : Int)
  /-- a thing that is known to the object (the script; a dict while a loop walks it): read, never written while it is so -/
  | frz (o : Obj) (u : HO)
  /-- a code object's table -/
  | tbl (l c : Value) (q : Str)
  /-- any other thing, by what is true of its one object (a def of one's own: SetO a S n := HO.ext fun h => ..) -/
  | ext (φ : Heap → Prop)

abbrev Hp := Addr → Option HO
def upd (H : Hp) (a : Addr) (o : HO) : Hp := fun b => if b = a then some o else H b
theorem upd_same {H : Hp} {a : Addr} {o : HO} : upd H a o a = some o := by unfold upd; rw [if_pos rfl]
theorem upd_ne {H : Hp} {a b : Addr} {o : HO} (h : b ≠ a) : upd H a o b = H b := by unfold upd; rw [if_neg h]
/-- two objects of different content stand apart -/
theorem ne_of {H : Hp} {a b : Addr} {o u : HO} (h : H a = some o) (h' : H b = some u) (d : o ≠ u) : a ≠ b := by
  intro e; subst e; rw [h] at h'; exact d (Option.some.inj h')
theorem ne_of_none {H : Hp} {a b : Addr} {o : HO} (h : H a = some o) (h' : H b = none) : a ≠ b := by
  intro e; subst e; rw [h] at h'; cases h'

section
variable (P : Program) (w : World)
def ObjOk (H : Hp) (h : Heap) (a : Addr) : HO → Prop
  | .lst xs => xs.length ≤ sizeLine ∧ ∃ (its : List Value) (n : Nat), Vals xs its ∧ h.get? a = some { cls := .type "list", data := .seq its.toArray n }
  | .tup xs => xs.length ≤ sizeLine ∧ ∃ its : List Value, Vals xs its ∧ IsTup h a its.toArray
  | .dK kvs => kvs.length ≤ sizeLine ∧ (a == sysModules) = false ∧ ∃ vs, KV kvs vs ∧ h.DictOf (mixKind P w) a vs
  | .dT kvs => kvs.length ≤ sizeLine ∧ (a == sysModules) = false ∧ ∃ xs : List (List Key × Addr × Value),
      Paired (fun (p : List Key × V) (q : List Key × Addr × Value) => p.1 = q.1 ∧ H q.2.1 = some (.tup (p.1.map kV)) ∧ RelV p.2 q.2.2) kvs xs ∧
      ∃ o es ep, h.get? a = some o ∧ o.ExactDict ∧ o.data = .dict es ep ∧ es.toList = xs.map (entryOfKey (tupleKind (mixKind P w))) ∧ (xs.map (·.1)).Nodup
  | .set S n => h.SetOf (intKind P w) a S n
  | .ins C dx fs => H dx = some (.own a) ∧ fs.length ≤ 1000 ∧ dx ≠ a ∧ h.get? a = some (PySem.W.instObj C dx) ∧
      ∃ mA, h.Ns1 dx mA ∧ (∀ f, RelO (fs.lookup f) (mA f)) ∧ PySem.Within mA (fs.map (·.1))
  | .own _ => ∃ o, h.get? a = some o
  | .xd fs => ∃ mA, h.Ns1 a mA ∧ ∀ f, RelO (fs.lookup f) (mA f)
  | .rng lo hi => ∃ t u v, h.get? a = some { cls := .type "range", data := .fields #[.int lo t, .int hi u, .int 1 v] }
  | .frz o u => h.get? a = some o ∧ ObjOk H h a u
  | .tbl l c q => ∃ ps : Array Value, h.get? a = some { cls := .none, data := .fields ps } ∧ (ps = #[] ∨ ∃ (b : Addr) (ob : Obj) (vs : Array Value) (t : Tok), ps = #[l, c, .ref b] ∧ H b = some (.frz ob (.own 0)) ∧ ob.data = .fields vs ∧ vs[1]? = some (.str q t))
  | .met f x => h.get? a = some (PySem.W.methodObj (.ref f) (.ref x))
  | .ext φ => φ h ∧ (∃ o, h.get? a = some o) ∧ ∀ h1 h2 : Heap, φ h1 → (∀ o, h1.get? a = some o → h2.get? a = some o) → φ h2
/-- the abstract heap is held -/
def HOk (H : Hp) (h : Heap) : Prop := ∀ a o, H a = some o → ObjOk P w H h a o
end

section
variable {P : Program} {w : World} {H H' : Hp} {h h' : Heap} {a : Addr} {o : HO}
theorem ObjOk.lt (x : ObjOk P w H h a o) : a < h.objs.size := by
  cases o with
  | lst xs => obtain ⟨_, _, _, _, e⟩ := x; exact Heap.lt_size e
  | tup xs => obtain ⟨_, _, _, p⟩ := x; exact p.lt
  | dK kvs => obtain ⟨_, _, _, _, o, _, _, e, _⟩ := x; exact Heap.lt_size e
  | dT kvs => obtain ⟨_, _, _, _, o, _, _, e, _⟩ := x; exact Heap.lt_size e
  | set S n => obtain ⟨o, _, _, _, e, _⟩ := x; exact Heap.lt_size e
  | ins C dx fs => obtain ⟨_, _, _, e, _⟩ := x; exact Heap.lt_size e
  | own y => obtain ⟨_, e⟩ := x; exact Heap.lt_size e
  | xd fs => obtain ⟨_, ⟨_, _, _, e, _⟩, _⟩ := x; exact Heap.lt_size e
  | rng lo hi => obtain ⟨_, _, _, e⟩ := x; exact Heap.lt_size e
  | frz ob u => obtain ⟨e, _⟩ := x; exact Heap.lt_size e
  | tbl l c q => obtain ⟨_, e, _⟩ := x; exact Heap.lt_size e
  | met f y => exact Heap.lt_size (show h.get? a = some _ from x)
  | ext φ => obtain ⟨_, ⟨_, e⟩, _⟩ := x; exact Heap.lt_size e
theorem Paired.mapP {α β : Type} {F G : α → β → Prop} : ∀ {l₁ : List α} {l₂ : List β}, Paired F l₁ l₂ → (∀ a b, F a b → G a b) → Paired G l₁ l₂
  | _, _, .nil, _ => .nil
  | _, _, .cons r t, f => .cons (f _ _ r) (Paired.mapP t f)
/-- what an object's description leans on: its own object, its own dict, the tuples -/
theorem ObjOk.stay (x : ObjOk P w H h a o) (k : ∀ b u, (b = a ∨ H b = some (.own a)) → h.get? b = some u → h'.get? b = some u)
    (ho : ∀ b, H b = some (.own a) → H' b = some (.own a)) (ht : ∀ b xs, H b = some (.tup xs) → H' b = some (.tup xs)) (hz : ∀ b o u, H b = some (.frz o u) → H' b = some (.frz o u)) : ObjOk P w H' h' a o := by
  induction o with
  | lst xs => obtain ⟨z, its, n, r, e⟩ := x; exact ⟨z, its, n, r, k _ _ (.inl rfl) e⟩
  | tup xs => obtain ⟨z, its, r, ob, e, c⟩ := x; exact ⟨z, its, r, ob, k _ _ (.inl rfl) e, c⟩
  | dK kvs => obtain ⟨z, y, vs, r, ob, es, ep, e, c⟩ := x; exact ⟨z, y, vs, r, ob, es, ep, k _ _ (.inl rfl) e, c⟩
  | dT kvs =>
    obtain ⟨z, y, xs, r, ob, es, ep, e, c⟩ := x
    exact ⟨z, y, xs, Paired.mapP r fun p q z => ⟨z.1, ht _ _ z.2.1, z.2.2⟩, ob, es, ep, k _ _ (.inl rfl) e, c⟩
  | set S n => obtain ⟨ob, es, ep, t, e, c⟩ := x; exact ⟨ob, es, ep, t, k _ _ (.inl rfl) e, c⟩
  | ins C dx fs =>
    obtain ⟨d, z, ne, e, mA, ⟨od, es, ep, e2, c⟩, r⟩ := x
    exact ⟨ho _ d, z, ne, k _ _ (.inl rfl) e, mA, ⟨od, es, ep, k _ _ (.inr d) e2, c⟩, r⟩
  | own y => obtain ⟨ob, e⟩ := x; exact ⟨ob, k _ _ (.inl rfl) e⟩
  | xd fs => obtain ⟨mA, ⟨od, es, ep, e, c⟩, r⟩ := x; exact ⟨mA, ⟨od, es, ep, k _ _ (.inl rfl) e, c⟩, r⟩
  | rng lo hi => obtain ⟨t, u, v, e⟩ := x; exact ⟨t, u, v, k _ _ (.inl rfl) e⟩
  | frz ob u ih => obtain ⟨e, q⟩ := x; exact ⟨k _ _ (.inl rfl) e, ih q⟩
  | tbl l c q =>
    obtain ⟨ps, e, r⟩ := x
    refine ⟨ps, k a _ (.inl rfl) e, ?_⟩
    rcases r with r | ⟨b, ob, vs, t, r1, r2, r3⟩
    · exact .inl r
    · exact .inr ⟨b, ob, vs, t, r1, hz _ _ _ r2, r3⟩
  | met f y =>
    have e : h.get? a = some (PySem.W.methodObj (.ref f) (.ref y)) := x
    show h'.get? a = some (PySem.W.methodObj (.ref f) (.ref y))
    exact k a _ (.inl rfl) e
  | ext φ => obtain ⟨p, ⟨o, e⟩, st⟩ := x; exact ⟨st _ _ p fun o q => k _ _ (.inl rfl) q, ⟨o, k _ _ (.inl rfl) e⟩, st⟩
theorem HOk.lt (x : HOk P w H h) (e : H a = some o) : a < h.objs.size := (x a o e).lt
theorem HOk.fresh (x : HOk P w H h) (e : h.objs.size ≤ a) : H a = none := by
  cases q : H a with
  | none => rfl
  | some u => exact absurd (Nat.lt_of_lt_of_le (x.lt q) e) (Nat.lt_irrefl _)
/-- every object of the heap is kept -/
theorem HOk.kept (x : HOk P w H h) (k : ∀ b u, h.get? b = some u → h'.get? b = some u) : HOk P w H h' := fun a o e =>
  (x a o e).stay (fun b u _ q => k b u q) (fun _ q => q) (fun _ _ q => q) fun _ _ _ q => q
/-- a new object is laid and tracked -/
theorem HOk.laid (x : HOk P w H h) (k : ∀ b u, h.get? b = some u → h'.get? b = some u) (hp : h.objs.size ≤ a) (new : ObjOk P w (upd H a o) h' a o) : HOk P w (upd H a o) h' := fun b u e => by
  have hn := x.fresh hp
  by_cases hb : b = a
  · subst hb; rw [upd_same] at e; cases e; exact new
  · rw [upd_ne hb] at e
    exact (x b u e).stay (fun c v _ q => k c v q) (fun c q => by rw [upd_ne (ne_of_none q hn)]; exact q) (fun c xs q => by rw [upd_ne (ne_of_none q hn)]; exact q) fun c _ _ q => by rw [upd_ne (ne_of_none q hn)]; exact q
end

/-- what may be read as u: it is u, or a known u -/
def Rd (H : Hp) (a : Addr) (u : HO) : Prop := H a = some u ∨ ∃ o, H a = some (.frz o u)
theorem Rd.of {H : Hp} {a : Addr} {u : HO} (h : H a = some u) : Rd H a u := .inl h
theorem Rd.ok {P : Program} {w : World} {H : Hp} {h : Heap} {a : Addr} {u : HO} (r : Rd H a u) (x : HOk P w H h) : ObjOk P w H h a u := by
  rcases r with r | ⟨o, r⟩
  · exact x a u r
  · obtain ⟨_, q⟩ := x a _ r
    exact q
/-- what may be written -/
def Mut : Option HO → Prop
  | some (.lst _) => True
  | some (.dK _) => True
  | some (.dT _) => True
  | some (.set _ _) => True
  | some (.ins _ _ _) => True
  | some (.ext _) => True
  | _ => False
section
variable {P : Program} {w : World} {H : Hp} {h h' : Heap} {x e : Addr} {o' : HO}
/-- the object at e is changed: x itself, or the dict of the instance x -/
theorem HOk.write (ok : HOk P w H h) (mu : Mut (H x)) (he : e = x ∨ H e = some (.own x)) (k : ∀ b u, b ≠ e → h.get? b = some u → h'.get? b = some u) (heo : ∃ u, h'.get? e = some u)
    (new : ObjOk P w (upd H x o') h' x o') : HOk P w (upd H x o') h' := fun b u q => by
  have nown : ∀ c y, H c = some (.own y) → c ≠ x := fun c y r z => by subst z; rw [r] at mu; exact mu
  have ntup : ∀ c xs, H c = some (.tup xs) → c ≠ x := fun c xs r z => by subst z; rw [r] at mu; exact mu
  have nfrz : ∀ c o u, H c = some (.frz o u) → c ≠ x := fun c o u r z => by subst z; rw [r] at mu; exact mu
  by_cases hb : b = x
  · subst hb; rw [upd_same] at q; cases q; exact new
  · rw [upd_ne hb] at q
    by_cases hbe : b = e
    · have q' : H b = some (.own x) := by
        rcases he with z | z
        · exact absurd (hbe.trans z) hb
        · rw [hbe]; exact z
      rw [q] at q'; cases q'
      obtain ⟨v, hv⟩ := heo
      exact ⟨v, by rw [hbe]; exact hv⟩
    · refine (ok b u q).stay (fun c v hc r => k c v ?_ r) (fun c r => by rw [upd_ne (nown c b r)]; exact r) (fun c xs r => by rw [upd_ne (ntup c xs r)]; exact r) fun c o u r => by rw [upd_ne (nfrz c o u r)]; exact r
      rcases hc with rfl | hc
      · exact hbe
      · rintro rfl
        rcases he with z | z
        · exact nown c b hc z
        · rw [hc] at z; cases z; exact hb rfl
end

/-! ### kept unless tracked; of the frames at fs (the callers') the slots may change (an exception that passes writes there); of the records at ex (iterators) nothing is said -/
structure Un (fs ex : List Addr) (H H' : Hp) (h h' : Heap) : Prop where
  keep : ∀ b o, h.get? b = some o → H b = none → b ∉ fs → b ∉ ex → h'.get? b = some o
  slot : ∀ b o, h.get? b = some o → H b = none → b ∈ fs → b ∉ ex → ∃ sl, h'.get? b = some { o with slots := sl }
  free : ∀ b o, h.get? b = some o → H b = none → b ∉ ex → H' b = none
  there : ∀ b o, h.get? b = some o → b ∉ ex → ∃ o', h'.get? b = some o'
  tups : ∀ b xs, H b = some (.tup xs) → H' b = some (.tup xs)
  frzs : ∀ b o u, H b = some (.frz o u) → H' b = some (.frz o u)
  tbls : ∀ b l c q, H b = some (.tbl l c q) → H' b = some (.tbl l c q)
section
variable {fs fs' ex ex' : List Addr} {H H1 H2 : Hp} {h h1 h2 h' : Heap} {a x e : Addr} {o : HO}
theorem Un.any (u : Un fs ex H H1 h h1) {b : Addr} {ob : Obj} (q : h.get? b = some ob) (n : H b = none) (hx : b ∉ ex) : ∃ sl, h1.get? b = some { ob with slots := sl } := by
  by_cases hb : b ∈ fs
  · exact u.slot b ob q n hb hx
  · exact ⟨ob.slots, u.keep b ob q n hb hx⟩
theorem Un.trans (a : Un fs ex H H1 h h1) (b : Un fs ex H1 H2 h1 h2) : Un fs ex H H2 h h2 where
  keep := fun c ob q n hc hx => b.keep c ob (a.keep c ob q n hc hx) (a.free c ob q n hx) hc hx
  slot := fun c ob q n hc hx => by
    obtain ⟨sl, e1⟩ := a.slot c ob q n hc hx
    obtain ⟨sl', e2⟩ := b.slot c _ e1 (a.free c ob q n hx) hc hx
    exact ⟨sl', e2⟩
  free := fun c ob q n hx => by
    obtain ⟨o', e1⟩ := a.there c ob q hx
    exact b.free c o' e1 (a.free c ob q n hx) hx
  there := fun c ob q hx => by
    obtain ⟨o', e1⟩ := a.there c ob q hx
    exact b.there c o' e1 hx
  tups := fun c xs q => b.tups c xs (a.tups c xs q)
  frzs := fun c ob xs q => b.frzs c ob xs (a.frzs c ob xs q)
  tbls := fun c l c' q' q => b.tbls c l c' q' (a.tbls c l c' q' q)
theorem Un.kept (k : ∀ b u, h.get? b = some u → h'.get? b = some u) : Un fs ex H H h h' :=
  ⟨fun b ob q _ _ _ => k b ob q, fun b ob q _ _ _ => ⟨ob.slots, k b ob q⟩, fun _ _ _ n _ => n, fun b ob q _ => ⟨ob, k b ob q⟩, fun _ _ q => q, fun _ _ _ q => q, fun _ _ _ _ q => q⟩
theorem Un.refl : Un fs ex H H h h := Un.kept fun _ _ q => q
theorem Un.laid (k : ∀ b u, h.get? b = some u → h'.get? b = some u) (hp : h.objs.size ≤ a) (hn : H a = none) : Un fs ex H (upd H a o) h h' where
  keep := fun b u q _ _ _ => k b u q
  slot := fun b u q _ _ _ => ⟨u.slots, k b u q⟩
  free := fun b u q n _ => by rw [upd_ne (Nat.ne_of_lt (Nat.lt_of_lt_of_le (Heap.lt_size q) hp))]; exact n
  there := fun b u q _ => ⟨u, k b u q⟩
  tups := fun b xs q => by rw [upd_ne (ne_of_none q hn)]; exact q
  frzs := fun b u xs q => by rw [upd_ne (ne_of_none q hn)]; exact q
  tbls := fun b l c r q => by rw [upd_ne (ne_of_none q hn)]; exact q
theorem Un.write (mu : Mut (H x)) (he : e = x ∨ H e = some (.own x)) (k : ∀ b u, b ≠ e → h.get? b = some u → h'.get? b = some u) (heo : ∃ u, h'.get? e = some u) : Un fs ex H (upd H x o) h h' := by
  have hx : ∀ b, H b = none → b ≠ x := fun b n z => by subst z; rw [n] at mu; exact mu
  have hb : ∀ b, H b = none → b ≠ e := fun b n z => by
    subst z
    rcases he with r | r
    · exact hx b n r
    · rw [n] at r; cases r
  have hm : ∀ b u, H b = some u → ¬ Mut (some u) → b ≠ x := fun b u q nm z => by subst z; rw [q] at mu; exact nm mu
  refine ⟨fun b u q n _ _ => k b u (hb b n) q, fun b u q n _ _ => ⟨u.slots, k b u (hb b n) q⟩, fun b u q n _ => by rw [upd_ne (hx b n)]; exact n, fun b u q _ => ?_,
    fun b xs q => by rw [upd_ne (hm b _ q fun z => z)]; exact q, fun b u xs q => by rw [upd_ne (hm b _ q fun z => z)]; exact q, fun b l c r q => by rw [upd_ne (hm b _ q fun z => z)]; exact q⟩
  by_cases hbe : b = e
  · subst hbe; exact heo
  · exact ⟨u, k b u hbe q⟩
theorem Un.mono (u : Un fs ex H H1 h h1) (hs : ∀ b ∈ fs, b ∈ fs') (hx : ∀ b ∈ ex, b ∈ ex') : Un fs' ex' H H1 h h1 :=
  ⟨fun b ob q n hb he => u.keep b ob q n (fun z => hb (hs b z)) fun z => he (hx b z), fun _ _ q n _ he => u.any q n fun z => he (hx _ z), fun b ob q n he => u.free b ob q n fun z => he (hx b z), fun b ob q he => u.there b ob q fun z => he (hx b z), u.tups, u.frzs, u.tbls⟩
end

/-! ### the heap without what is tracked -/
def trk (h : Heap) (H : Hp) : List Addr := (List.range h.objs.size).filter fun a => (H a).isSome
def hidT (h : Heap) (H : Hp) : Heap := PySem.W.hideAll h (trk h H)
theorem hidT_size (h : Heap) (H : Hp) : (hidT h H).objs.size = h.objs.size := PySem.W.hideAll_size _ _
theorem hidT_get {h : Heap} {H : Hp} {b : Addr} {o : Obj} (e : h.get? b = some o) (n : H b = none) : (hidT h H).get? b = some o :=
  PySem.W.hideAll_get _ e fun hm => by
    have q : (H b).isSome = true := (List.mem_filter.mp hm).2
    rw [n] at q; simp at q
theorem of_hidT {h : Heap} {H : Hp} {b : Addr} {o : Obj} (e : (hidT h H).get? b = some o) : h.get? b = some o ∧ H b = none := by
  have e' : h.get? b = some o := PySem.W.of_hideAll (trk h H) e
  refine ⟨e', ?_⟩
  cases q : H b with
  | none => rfl
  | some x =>
    have hm : b ∈ trk h H := List.mem_filter.mpr ⟨List.mem_range.mpr (Heap.lt_size e'), by simp [q]⟩
    have z : (hidT h H).get? b = none := PySem.W.hideAll_none (trk h H) hm
    rw [z] at e; cases e

/-! ### OpenK's ledger, filled with every new object but one -/
def allNews (g h : Heap) (L : Addr) : List (Addr × Obj) := (List.range h.objs.size).filterMap fun a => if a = L ∨ (g.get? a).isSome = true then none else (h.get? a).map fun o => (a, o)
def rest (g h : Heap) (L d : Addr) : List (Addr × Obj) := (allNews g h L).filter fun p => decide (p.1 ≠ d)
end L2

namespace L2
open PySem PySem.Spec PyProof.Rows

/-- the module's facts, over the base: the heap at the law's entry without what is tracked there -/
structure Mod (K : PySem.W.Frag) (mg : Str → Option Value) (base : Heap) : Prop where
  kin : K.In base
  glob : base.Ns mainGlobals mg
  blt : ∃ mb, base.Ns builtinsNs mb ∧ ∀ x : Str, x ≠ "__name__" → mb x = bootBuiltins x
  nolimit : base.NoLimit

/-- the context: a def's body (or a comprehension's block) running. base: fixed through the whole law; s₀, H₀: the entry; outer: the frames whose slots others may change (a def's callers); stack: all frames that run;
   ex: iterators that were made ahead of the entry and are walked here (a comprehension's); fn: the names whose cells were made at the entry (a def: all; a comprehension's block: its own); calm: not within an except suite; pn: pins that every state bears; xe: what is wanted of an exception that leaves the code -/
structure Cx where
  prog : Program
  w : World
  K : PySem.W.Frag
  mg : Str → Option Value
  base : Heap
  A : Around
  N : List Str
  s₀ : Shared
  H₀ : Hp
  env : Env
  outer : List Env
  stack : List Env
  ex : List Addr
  fn : Str → Bool
  calm : Bool
  pn : List (Addr × Obj)
  xe : Value → Shared → Prop
/-- the callers' frames -/
def frs (l : List Env) : List Addr := l.filterMap (·.frame)
abbrev Cx.fs (X : Cx) : List Addr := frs X.outer

def Vis (sc : Scope) (x : Str) : Prop := sc.names.lookup x = some .local ∨ sc.names.lookup x = some .cell ∨ sc.names.lookup x = some .free
def Loc (sc : Scope) (x : Str) : Prop := sc.names.lookup x = some .local ∨ sc.names.lookup x = some .cell
def Look (env : Env) (h : Heap) (m : Str → Option Value) (x : Str) (u : Value) : Prop :=
  (env.kindOf x = some .local ∧ m x = some u) ∨ ((env.kindOf x = some .cell ∨ env.kindOf x = some .free) ∧ ∃ c, env.cells.lookup x = some c ∧ h.IsCell c (some u))

structure Cx.Ok (X : Cx) : Prop where
  mod : Mod X.K X.mg X.base
  kind : X.env.scope.kind = .function
  glob : X.env.globals = mainGlobals
  blt : X.env.builtins = builtinsNs
  above : X.s₀.heap.objs.size ≤ X.env.locals
  inj : ∀ x y c, X.env.cells.lookup x = some c → X.env.cells.lookup y = some c → x = y
  has : ∀ x, (X.env.kindOf x = some .cell ∨ X.env.kindOf x = some .free) → ∃ c, X.env.cells.lookup x = some c
  cab : ∀ x c, X.fn x = true → X.env.cells.lookup x = some c → X.s₀.heap.objs.size ≤ c
  hd : X.calm = true → X.A.handled = none
  frames : X.A.frames = some X.stack
  stk : X.stack = X.outer ∨ (X.stack = X.env :: X.outer ∧ X.env.frame = some X.env.locals)
  exf : ∀ b ∈ X.ex, b ≠ X.env.locals ∧ ∀ x c, X.env.cells.lookup x = some c → c ≠ b
  bs : ∀ b o, X.base.get? b = some o → X.s₀.heap.get? b = some o ∧ X.H₀ b = none
  bsz : X.base.objs.size ≤ X.s₀.heap.objs.size
  noex : ∀ b o, X.base.get? b = some o → b ∉ X.ex
  exfs : ∀ b ∈ X.ex, b ∉ X.fs
  funs : X.s₀.heap.FunFrames X.base X.outer
  frf : ∀ b ∈ X.fs, X.H₀ b = none

structure Inv (X : Cx) (pins : List (Addr × Obj)) (σ : List (Option V)) (H : Hp) (s : Shared) : Prop where
  ok : X.Ok
  os : s.os = X.s₀.os
  bare : AllBare s.gens
  base : Un X.fs X.ex X.H₀ H X.s₀.heap s.heap
  loc : ∃ m, s.heap.Ns X.env.locals m ∧ ∀ (i : Nat) (x : Str) (v : V), X.N[i]? = some x → σ[i]? = some (some v) → Vis X.env.scope x → ∃ u, RelV v u ∧ Look X.env s.heap m x u
  cell : ∀ x c, X.env.cells.lookup x = some c → ∃ v, s.heap.IsCell c v
  free : H X.env.locals = none
  freeC : ∀ x c, X.env.cells.lookup x = some c → H c = none
  pin : ∀ p ∈ X.pn ++ pins, s.heap.get? p.1 = some p.2 ∧ H p.1 = none ∧ p.1 ≠ X.env.locals ∧ p.1 ∉ X.fs ∧ ∀ v, p.2.data ≠ .cell v
  hok : HOk X.prog X.w H s.heap
  len : σ.length = X.N.length

section
variable {X : Cx} {pins : List (Addr × Obj)} {σ : List (Option V)} {H H' : Hp} {s : Shared} {h' : Heap}

theorem Cx.Ok.nofr (ok : X.Ok) {b : Addr} {o : Obj} (e : X.base.get? b = some o) : b ∉ X.fs := fun hb => by
  have := (ok.funs.mem hb).1
  rw [e] at this; cases this
theorem Inv.bs (I : Inv X pins σ H s) : ∀ b o, X.base.get? b = some o → s.heap.get? b = some o ∧ H b = none := fun b o e =>
  ⟨I.base.keep b o (I.ok.bs b o e).1 (I.ok.bs b o e).2 (I.ok.nofr e) (I.ok.noex b o e), I.base.free b o (I.ok.bs b o e).1 (I.ok.bs b o e).2 (I.ok.noex b o e)⟩
theorem Inv.bk (I : Inv X pins σ H s) : ∀ b o, X.base.get? b = some o → s.heap.get? b = some o := fun b o e => (I.bs b o e).1
theorem Inv.mod (I : Inv X pins σ H s) : Mod X.K X.mg X.base := I.ok.mod
theorem Inv.kIn (I : Inv X pins σ H s) : X.K.In s.heap := I.ok.mod.kin.keeps I.bk
theorem Inv.nolimit (I : Inv X pins σ H s) : s.heap.NoLimit := I.ok.mod.nolimit.keeps I.bk
/-- the frame over the base: for OpenK's rules (K.In X.base is I.mod.kin) -/
theorem Inv.fr (I : Inv X pins σ H s) : ∃ m, Fr X.base X.env.locals s.heap m :=
  let ⟨m, hn, _⟩ := I.loc
  ⟨m, hn, I.bk, Nat.le_trans I.ok.bsz I.ok.above⟩
theorem Inv.lt (I : Inv X pins σ H s) : X.env.locals < s.heap.objs.size := let ⟨_, hn, _⟩ := I.loc; hn.lt
theorem Inv.sz (I : Inv X pins σ H s) : X.s₀.heap.objs.size ≤ s.heap.objs.size := Nat.le_trans I.ok.above (Nat.le_of_lt I.lt)
theorem Inv.nofs (I : Inv X pins σ H s) {a : Addr} (h : s.heap.objs.size ≤ a) : a ∉ X.fs := fun hb => by
  obtain ⟨_, o, ho, _⟩ := I.ok.funs.mem hb
  exact absurd (Nat.lt_of_lt_of_le (Heap.lt_size ho) (Nat.le_trans I.sz h)) (Nat.lt_irrefl _)
theorem Inv.cne (I : Inv X pins σ H s) : ∀ x c, X.env.cells.lookup x = some c → c ≠ X.env.locals := fun x c e z => by
  obtain ⟨v, o, ho, hd⟩ := I.cell x c e
  obtain ⟨m, ⟨o', es, ep, ho', hd', _⟩, _⟩ := I.loc
  rw [z, ho'] at ho; cases ho; rw [hd'] at hd; cases hd
theorem Inv.funs (I : Inv X pins σ H s) : s.heap.FunFrames X.base X.outer := by
  have all : ∀ (l : List Env), (∀ b ∈ frs l, b ∈ X.fs) → X.s₀.heap.FunFrames X.base l → s.heap.FunFrames X.base l := by
    intro l
    induction l with
    | nil => intro _ _; trivial
    | cons env r ih =>
      intro hs hl
      obtain ⟨hk, ⟨L, o, hf, hn, ho, hd⟩, hr⟩ := hl
      have hL : L ∈ X.fs := hs L (by unfold frs; rw [List.filterMap_cons, hf]; exact List.mem_cons_self)
      obtain ⟨sl, e⟩ := I.base.slot L o ho (I.ok.frf L hL) hL fun z => I.ok.exfs L z hL
      exact ⟨hk, ⟨L, _, hf, hn, e, hd⟩, ih (fun b hb => hs b (by unfold frs; rw [List.filterMap_cons, hf]; exact List.mem_cons_of_mem _ hb)) hr⟩
  exact all X.outer (fun _ hb => hb) I.ok.funs

/-- the frames that run, for a call -/
theorem Inv.stack (I : Inv X pins σ H s) : s.heap.FunFrames X.base X.stack := by
  rcases I.ok.stk with e | ⟨e, hf⟩
  · rw [e]; exact I.funs
  · rw [e]
    obtain ⟨m, hn, _⟩ := I.loc
    refine .cons (by rw [I.ok.kind]; decide) hf hn ?_ I.funs
    exact Heap.get?_none_of_le (Nat.le_trans I.ok.bsz I.ok.above)
theorem Inv.stkSub (I : Inv X pins σ H s) : ∀ b ∈ frs X.stack, b ∈ X.env.locals :: X.fs := fun b hb => by
  rcases I.ok.stk with e | ⟨e, hf⟩
  · rw [e] at hb; exact List.mem_cons_of_mem _ hb
  · rw [e] at hb
    unfold frs at hb
    rw [List.filterMap_cons, hf] at hb
    exact hb
theorem Inv.stkFree (I : Inv X pins σ H s) : ∀ b ∈ frs X.stack, H b = none := fun b hb => by
  rcases List.mem_cons.mp (I.stkSub b hb) with e | hb
  · rw [e]; exact I.free
  · obtain ⟨_, o, ho, _⟩ := I.ok.funs.mem hb
    exact I.base.free b o ho (I.ok.frf b hb) fun z => I.ok.exfs b z hb

/-- THE STEP: the untracked objects but the frame and the records at ch are kept (the callers' frames up to slots), the frame's map is kept, the new abstract heap is held -/
theorem Inv.step {g' : Array GenState} {t' : Nat} {d' : Drawn} {ch : List Addr} (I : Inv X pins σ H s)
    (hch : ∀ b ∈ ch, (b ∈ X.ex ∨ X.s₀.heap.objs.size ≤ b) ∧ b ≠ X.env.locals ∧ (∀ x c, X.env.cells.lookup x = some c → c ≠ b) ∧ ∀ p ∈ X.pn ++ pins, p.1 ≠ b)
    (keep : ∀ b o, b ≠ X.env.locals → b ∉ X.fs → b ∉ ch → s.heap.get? b = some o → H b = none → h'.get? b = some o)
    (slot : ∀ b o, b ≠ X.env.locals → b ∈ X.fs → b ∉ ch → s.heap.get? b = some o → H b = none → ∃ sl, h'.get? b = some { o with slots := sl }) (free : ∀ b o, b ∉ ch → s.heap.get? b = some o → H b = none → H' b = none)
    (there : ∀ b o, b ∉ ch → s.heap.get? b = some o → ∃ o', h'.get? b = some o')
    (tups : ∀ b xs, H b = some (.tup xs) → H' b = some (.tup xs)) (frzs : ∀ b o u, H b = some (.frz o u) → H' b = some (.frz o u)) (tbls : ∀ b l c q, H b = some (.tbl l c q) → H' b = some (.tbl l c q))
    (ns : ∀ m, s.heap.Ns X.env.locals m → h'.Ns X.env.locals m) (hok : HOk X.prog X.w H' h') (hg : AllBare g') :
    Inv X pins σ H' { s with heap := h', gens := g', drawn := d', toks := t' } := by
  have neL : ∀ b o, X.s₀.heap.get? b = some o → b ≠ X.env.locals := fun b o e => Nat.ne_of_lt (Nat.lt_of_lt_of_le (Heap.lt_size e) I.ok.above)
  have neC : ∀ b o, X.s₀.heap.get? b = some o → b ∉ X.ex → b ∉ ch := fun b o e hx hb => by
    rcases (hch b hb).1 with z | z
    · exact hx z
    · exact absurd (Nat.lt_of_lt_of_le (Heap.lt_size e) z) (Nat.lt_irrefl _)
  have cellK : ∀ x c, X.env.cells.lookup x = some c → ∀ v, s.heap.IsCell c v → h'.IsCell c v := fun x c e v ⟨o, ho, hd⟩ => by
    have nch : c ∉ ch := fun z => (hch c z).2.2.1 x c e rfl
    by_cases hc : c ∈ X.fs
    · obtain ⟨sl, q⟩ := slot c o (I.cne x c e) hc nch ho (I.freeC x c e)
      exact ⟨_, q, hd⟩
    · exact ⟨o, keep c o (I.cne x c e) hc nch ho (I.freeC x c e), hd⟩
  refine ⟨I.ok, I.os, hg, ⟨fun b o e n hb hx => ?_, fun b o e n hb hx => ?_, fun b o e n hx => ?_, fun b o e hx => ?_, fun b xs e => tups b xs (I.base.tups b xs e), fun b o xs e => frzs b o xs (I.base.frzs b o xs e), fun b l c q e => tbls b l c q (I.base.tbls b l c q e)⟩, ?_, fun x c e => ?_, ?_, fun x c e => ?_, fun p hp => ?_, hok, I.len⟩
  · exact keep b o (neL b o e) hb (neC b o e hx) (I.base.keep b o e n hb hx) (I.base.free b o e n hx)
  · obtain ⟨sl, e1⟩ := I.base.slot b o e n hb hx
    obtain ⟨sl', e2⟩ := slot b _ (neL b o e) hb (neC b o e hx) e1 (I.base.free b o e n hx)
    exact ⟨sl', e2⟩
  · obtain ⟨o', e1⟩ := I.base.there b o e hx
    exact free b o' (neC b o e hx) e1 (I.base.free b o e n hx)
  · obtain ⟨o', e1⟩ := I.base.there b o e hx
    exact there b o' (neC b o e hx) e1
  · obtain ⟨m, hn, hl⟩ := I.loc
    refine ⟨m, ns m hn, fun i x v e1 e2 e3 => ?_⟩
    obtain ⟨u, r, l⟩ := hl i x v e1 e2 e3
    refine ⟨u, r, ?_⟩
    rcases l with l | ⟨k, c, e, z⟩
    · exact .inl l
    · exact .inr ⟨k, c, e, cellK x c e _ z⟩
  · obtain ⟨v, z⟩ := I.cell x c e
    exact ⟨v, cellK x c e v z⟩
  · obtain ⟨m, ⟨o, _, _, ho, _⟩, _⟩ := I.loc
    exact free _ o (fun z => (hch _ z).2.1 rfl) ho I.free
  · obtain ⟨v, o, ho, hd⟩ := I.cell x c e
    exact free c o (fun z => (hch c z).2.2.1 x c e rfl) ho (I.freeC x c e)
  · obtain ⟨e, n, ne, nf, d⟩ := I.pin p hp
    have nch : p.1 ∉ ch := fun z => (hch p.1 z).2.2.2 p hp rfl
    exact ⟨keep p.1 p.2 ne nf nch e n, free p.1 p.2 nch e n, ne, nf, d⟩
/-- .. where the frame's own object is kept too -/
theorem Inv.un {t' : Nat} (I : Inv X pins σ H s) (u : Un X.fs [] H H' s.heap h') (hok : HOk X.prog X.w H' h') : Inv X pins σ H' { s with heap := h', toks := t' } := by
  obtain ⟨m, ⟨o, es, ep, ho, r⟩, _⟩ := id I.loc
  obtain ⟨sl, hL⟩ := u.any ho I.free (by simp)
  exact I.step (g' := s.gens) (d' := s.drawn) (ch := []) (fun _ z => nomatch z) (fun b o _ hb _ e n => u.keep b o e n hb (by simp)) (fun b o _ hb _ e n => u.slot b o e n hb (by simp)) (fun b o _ e n => u.free b o e n (by simp)) (fun b o _ e => u.there b o e (by simp)) u.tups u.frzs u.tbls (fun m' hm => by
    obtain ⟨o', es', ep', ho', r'⟩ := hm
    rw [ho] at ho'; cases ho'
    exact ⟨_, es', ep', hL, r'⟩) hok I.bare
/-- behind a call (or a comprehension's block): the slots of this frame may have changed too, the records at ch may have turned -/
theorem Inv.call {g' : Array GenState} {t' : Nat} {d' : Drawn} {ch : List Addr} (I : Inv X pins σ H s) (u : Un (frs X.stack) ch H H' s.heap h') (hok : HOk X.prog X.w H' h') (hg : AllBare g')
    (hch : ∀ b ∈ ch, (b ∈ X.ex ∨ X.s₀.heap.objs.size ≤ b) ∧ b ≠ X.env.locals ∧ (∀ x c, X.env.cells.lookup x = some c → c ≠ b) ∧ ∀ p ∈ X.pn ++ pins, p.1 ≠ b) :
    Inv X pins σ H' { s with heap := h', gens := g', drawn := d', toks := t' } := by
  obtain ⟨m, ⟨o, es, ep, ho, r⟩, _⟩ := id I.loc
  obtain ⟨sl, hL⟩ := u.any ho I.free fun z => (hch _ z).2.1 rfl
  exact I.step (ch := ch) hch (fun b o hL hb hc e n => u.keep b o e n (fun z => (List.mem_cons.mp (I.stkSub b z)).elim hL hb) hc) (fun b o _ _ hc e n => u.any e n hc) (fun b o hc e n => u.free b o e n hc) (fun b o hc e => u.there b o e hc) u.tups u.frzs u.tbls (fun m' hm => by
    obtain ⟨o', es', ep', ho', r'⟩ := hm
    rw [ho] at ho'; cases ho'
    exact ⟨_, es', ep', hL, r'⟩) hok hg
/-- an untracked record of ours (an iterator) has turned -/
theorem Inv.turned {t' : Nat} {it : Addr} (I : Inv X pins σ H s) (k : ∀ b o, b ≠ it → s.heap.get? b = some o → h'.get? b = some o) (hn : H it = none) (hL : it ≠ X.env.locals)
    (h1 : it ∈ X.ex ∨ X.s₀.heap.objs.size ≤ it) (h2 : ∀ x c, X.env.cells.lookup x = some c → c ≠ it) (h3 : ∀ p ∈ X.pn ++ pins, p.1 ≠ it) : Inv X pins σ H { s with heap := h', toks := t' } := by
  have nit : ∀ b u, H b = some u → b ≠ it := fun b u e z => by rw [z, hn] at e; cases e
  refine I.step (g' := s.gens) (d' := s.drawn) (ch := [it]) (fun b hb => ?_) (fun b o _ _ hc e _ => k b o (fun z => hc (by simp [z])) e) (fun b o _ _ hc e _ => ⟨o.slots, k b o (fun z => hc (by simp [z])) e⟩) (fun _ _ _ _ n => n)
    (fun b o hc e => ⟨o, k b o (fun z => hc (by simp [z])) e⟩) (fun _ _ e => e) (fun _ _ _ e => e) (fun _ _ _ _ e => e) (fun m hm => ?_) (fun b u e => ?_) I.bare
  · have e : b = it := by simpa using hb
    subst e
    exact ⟨h1, hL, h2, h3⟩
  · obtain ⟨o, es, ep, ho, r⟩ := hm
    exact ⟨o, es, ep, k _ o (Ne.symm hL) ho, r⟩
  · refine (I.hok b u e).stay (fun c v hc q => k c v ?_ q) (fun _ q => q) (fun _ _ q => q) fun _ _ _ q => q
    rcases hc with z | z
    · rw [z]; exact nit b u e
    · exact nit c _ z
theorem Inv.tok (I : Inv X pins σ H s) (t : Nat) : Inv X pins σ H { s with toks := t } := I.un (h' := s.heap) (t' := t) Un.refl I.hok
/-- all objects kept -/
theorem Inv.kept {t' : Nat} (I : Inv X pins σ H s) (k : ∀ b u, s.heap.get? b = some u → h'.get? b = some u) : Inv X pins σ H { s with heap := h', toks := t' } := I.un (Un.kept k) (I.hok.kept k)
/-- a new object laid and tracked -/
theorem Inv.laid {a : Addr} {o : HO} {t' : Nat} (I : Inv X pins σ H s) (k : ∀ b u, s.heap.get? b = some u → h'.get? b = some u) (hp : s.heap.objs.size ≤ a) (new : ObjOk X.prog X.w (upd H a o) h' a o) :
    Inv X pins σ (upd H a o) { s with heap := h', toks := t' } := I.un (Un.laid k hp (I.hok.fresh hp)) (I.hok.laid k hp new)
/-- an object written -/
theorem Inv.write {x e : Addr} {o : HO} {t' : Nat} (I : Inv X pins σ H s) (mu : Mut (H x)) (he : e = x ∨ H e = some (.own x)) (k : ∀ b u, b ≠ e → s.heap.get? b = some u → h'.get? b = some u) (heo : ∃ u, h'.get? e = some u)
    (new : ObjOk X.prog X.w (upd H x o) h' x o) : Inv X pins σ (upd H x o) { s with heap := h', toks := t' } := I.un (Un.write mu he k heo) (I.hok.write mu he k heo new)
/-- forgetting slots, pins -/
theorem Inv.weak {σ' : List (Option V)} (I : Inv X pins σ H s) (hl : σ'.length = σ.length) (w : ∀ (i : Nat) v, σ'[i]? = some (some v) → σ[i]? = some (some v)) : Inv X pins σ' H s :=
  ⟨I.ok, I.os, I.bare, I.base, let ⟨m, hn, hl'⟩ := I.loc; ⟨m, hn, fun i x v e1 e2 e3 => hl' i x v e1 (w i v e2) e3⟩, I.cell, I.free, I.freeC, I.pin, I.hok, hl.trans I.len⟩
theorem Inv.pins_of {pins' : List (Addr × Obj)} (I : Inv X pins σ H s) (h : ∀ p ∈ pins', s.heap.get? p.1 = some p.2 ∧ H p.1 = none ∧ p.1 ≠ X.env.locals ∧ p.1 ∉ X.fs ∧ ∀ v, p.2.data ≠ .cell v) : Inv X pins' σ H s :=
  ⟨I.ok, I.os, I.bare, I.base, I.loc, I.cell, I.free, I.freeC, fun p hp => (List.mem_append.mp hp).elim (fun z => I.pin p (List.mem_append_left _ z)) (h p), I.hok, I.len⟩

theorem nodup_ix {N : List Str} (hN : N.Nodup) {i j : Nat} {x : Str} (a : N[i]? = some x) (b : N[j]? = some x) : i = j := by
  obtain ⟨h1, e1⟩ := List.getElem?_eq_some_iff.mp a
  obtain ⟨h2, e2⟩ := List.getElem?_eq_some_iff.mp b
  exact (List.getElem_inj hN).mp (e1.trans e2.symm)

/-- a name is stored; what changed -/
theorem store_ok2 {M : Model} {A : Around} {E : Value → Shared → Prop} {i : Nat} {x : Str} {v : V} {u : Value} {Q : Unit → Shared → Prop} (I : Inv X pins σ H s) (hN : X.N.Nodup) (hi : X.N[i]? = some x) (hx : Loc X.env.scope x) (r : RelV v u)
    (h : ∀ s', Inv X pins (σ.set i (some v)) H s' → (∃ a, Heap.SameBut a s.heap s'.heap ∧ (a = X.env.locals ∨ X.env.cells.lookup x = some a)) → Q () s') (hf : X.fn x = true ∨ X.env.scope.names.lookup x = some .local := by first | exact .inl rfl | exact .inr rfl | assumption) : wpAny M A (storeName X.env x u) Q E s := by
  obtain ⟨m, hn, hl⟩ := id I.loc
  have hcls : (X.env.scope.kind == .class || (X.env.scope.kind == .module && X.env.locals != X.env.globals)) = false := by rw [I.ok.kind]; rfl
  have hiσ : i < σ.length := by rw [I.len]; exact (List.getElem?_eq_some_iff.mp hi).1
  have cne := I.cne
  have tracked : ∀ {a : Addr} {h' : Heap}, (∃ o, s.heap.get? a = some o ∧ H a = none) → Heap.SameBut a s.heap h' → HOk X.prog X.w H h' := fun {a h'} ha hs b ob e => by
    obtain ⟨_, _, hfree⟩ := ha
    refine (I.hok b ob e).stay (fun c w' hc q => (hs.2 c ?_).trans q) (fun _ q => q) (fun _ _ q => q) fun _ _ _ q => q
    rintro rfl
    rcases hc with rfl | hc
    · rw [hfree] at e; cases e
    · rw [hfree] at hc; cases hc
  rcases hx with hk | hk
  · refine wpAny_storeName_local hk hn (fun h' hn' hs => ?_) hcls
    obtain ⟨oL, _, _, hoL, _⟩ := id hn
    refine h _ ⟨I.ok, I.os, I.bare, ⟨fun b o e n hb hx => ?_, fun b o e n hb hx => ?_, I.base.free, fun b o e hx => ?_, I.base.tups, I.base.frzs, I.base.tbls⟩, ⟨_, hn', fun j y v' e1 e2 e3 => ?_⟩, fun y c e => ?_, I.free, I.freeC, fun p hp => ?_, tracked ⟨oL, hoL, I.free⟩ hs, by simpa using I.len⟩ ⟨_, hs, .inl rfl⟩
    · exact (hs.2 b (Nat.ne_of_lt (Nat.lt_of_lt_of_le (Heap.lt_size e) I.ok.above))).trans (I.base.keep b o e n hb hx)
    · obtain ⟨sl, e1⟩ := I.base.slot b o e n hb hx
      exact ⟨sl, (hs.2 b (Nat.ne_of_lt (Nat.lt_of_lt_of_le (Heap.lt_size e) I.ok.above))).trans e1⟩
    · obtain ⟨o', e1⟩ := I.base.there b o e hx
      exact ⟨o', (hs.2 b (Nat.ne_of_lt (Nat.lt_of_lt_of_le (Heap.lt_size e) I.ok.above))).trans e1⟩
    · by_cases hj : j = i
      · subst hj
        rw [hi] at e1; cases e1
        rw [List.getElem?_set_self hiσ] at e2
        cases e2
        exact ⟨u, r, .inl ⟨hk, by simp⟩⟩
      · rw [List.getElem?_set_ne (Ne.symm hj)] at e2
        obtain ⟨u', r', q⟩ := hl j y v' e1 e2 e3
        refine ⟨u', r', ?_⟩
        rcases q with ⟨k, e⟩ | ⟨k, c, e, z⟩
        · refine .inl ⟨k, ?_⟩
          have : y ≠ x := fun e => hj (nodup_ix hN e1 (e ▸ hi))
          simp [this, e]
        · exact .inr ⟨k, c, e, z.sameBut hs (cne y c e)⟩
    · obtain ⟨w', z⟩ := I.cell y c e
      exact ⟨w', z.sameBut hs (cne y c e)⟩
    · obtain ⟨e, n, ne, nf, d⟩ := I.pin p hp
      exact ⟨(hs.2 p.1 ne).trans e, n, ne, nf, d⟩
  · have hfn : X.fn x = true := by
      rcases hf with z | z
      · exact z
      · rw [z] at hk; cases hk
    obtain ⟨c, hc⟩ := I.ok.has x (.inl hk)
    obtain ⟨w', z⟩ := I.cell x c hc
    refine wpAny_storeName_cell I.ok.kind hk hc z (fun h' hc' hs => ?_)
    obtain ⟨oc, hoc, hocd⟩ := id z
    refine h { s with heap := h' } ⟨I.ok, I.os, I.bare, ⟨fun b o e n hb hx => ?_, fun b o e n hb hx => ?_, I.base.free, fun b o e hx => ?_, I.base.tups, I.base.frzs, I.base.tbls⟩, ⟨m, hn.sameBut hs (Ne.symm (cne x c hc)), fun j y v' e1 e2 e3 => ?_⟩, fun y c' e => ?_, I.free, I.freeC, fun p hp => ?_, tracked ⟨oc, hoc, I.freeC x c hc⟩ hs, by simpa using I.len⟩ ⟨c, hs, .inr hc⟩
    · exact (hs.2 b (Nat.ne_of_lt (Nat.lt_of_lt_of_le (Heap.lt_size e) (I.ok.cab x c hfn hc)))).trans (I.base.keep b o e n hb hx)
    · obtain ⟨sl, e1⟩ := I.base.slot b o e n hb hx
      exact ⟨sl, (hs.2 b (Nat.ne_of_lt (Nat.lt_of_lt_of_le (Heap.lt_size e) (I.ok.cab x c hfn hc)))).trans e1⟩
    · obtain ⟨o', e1⟩ := I.base.there b o e hx
      exact ⟨o', (hs.2 b (Nat.ne_of_lt (Nat.lt_of_lt_of_le (Heap.lt_size e) (I.ok.cab x c hfn hc)))).trans e1⟩
    · by_cases hj : j = i
      · subst hj
        rw [hi] at e1; cases e1
        rw [List.getElem?_set_self hiσ] at e2
        cases e2
        exact ⟨u, r, .inr ⟨.inl hk, c, hc, hc'⟩⟩
      · rw [List.getElem?_set_ne (Ne.symm hj)] at e2
        obtain ⟨u', r', q⟩ := hl j y v' e1 e2 e3
        refine ⟨u', r', ?_⟩
        rcases q with q | ⟨k, c', e, z'⟩
        · exact .inl q
        · refine .inr ⟨k, c', e, z'.sameBut hs ?_⟩
          rintro rfl
          exact hj (nodup_ix hN e1 (I.ok.inj _ _ _ e hc ▸ hi))
    · by_cases hcc : c' = c
      · subst hcc; exact ⟨_, hc'⟩
      · obtain ⟨w2, z2⟩ := I.cell y c' e
        exact ⟨w2, z2.sameBut hs hcc⟩
    · obtain ⟨e, n, ne, nf, d⟩ := I.pin p hp
      refine ⟨(hs.2 p.1 ?_).trans e, n, ne, nf, d⟩
      intro q
      rw [q, hoc] at e
      have q' : oc = p.2 := Option.some.inj e
      exact d w' (by rw [← q']; exact hocd)
theorem store_ok {M : Model} {A : Around} {E : Value → Shared → Prop} {i : Nat} {x : Str} {v : V} {u : Value} {Q : Unit → Shared → Prop} (I : Inv X pins σ H s) (hN : X.N.Nodup) (hi : X.N[i]? = some x) (hx : Loc X.env.scope x) (r : RelV v u)
    (h : ∀ s', Inv X pins (σ.set i (some v)) H s' → Q () s') (hf : X.fn x = true ∨ X.env.scope.names.lookup x = some .local := by first | exact .inl rfl | exact .inr rfl | assumption) : wpAny M A (storeName X.env x u) Q E s :=
  store_ok2 I hN hi hx r (fun s' I' _ => h s' I') hf
/-- behind a call or a block, the state as it is -/
theorem Inv.call' {s' : Shared} {ch : List Addr} (I : Inv X pins σ H s) (ho : s'.os = s.os) (u : Un (frs X.stack) ch H H' s.heap s'.heap) (hok : HOk X.prog X.w H' s'.heap) (hg : AllBare s'.gens)
    (hch : ∀ b ∈ ch, (b ∈ X.ex ∨ X.s₀.heap.objs.size ≤ b) ∧ b ≠ X.env.locals ∧ (∀ x c, X.env.cells.lookup x = some c → c ≠ b) ∧ ∀ p ∈ X.pn ++ pins, p.1 ≠ b) : Inv X pins σ H' s' := by
  obtain ⟨h', g', d', t', o'⟩ := s'
  have e : o' = s.os := ho
  subst e
  exact I.call (g' := g') (t' := t') (d' := d') u hok hg hch
end

/-! ### the judgements -/
/-- an exception: its class, its own dict's address (where it has one), the abstract heap behind it -/
abbrev XK := Value → Option Addr → Hp → Prop
abbrev St := List (Option V)
abbrev VK := V → Hp → Prop
/-- an expression's reading; a test's; an argument list's -/
abbrev TE := St → Hp → VK → Prop
abbrev TT := St → Hp → (Bool → Hp → Prop) → Prop
abbrev TA := St → Hp → (List V → Hp → Prop) → Prop
/-- what is wanted behind a statement -/
structure Ends where
  nx : St → Hp → Prop
  rt : VK
  bk : St → Hp → Prop := fun _ _ => False
  ct : St → Hp → Prop := fun _ _ => False
abbrev TS := Ends → St → Hp → Prop

def EP (X : Cx) (pins : List (Addr × Obj)) (σ : St) (Q : VK) (u : Value) (s' : Shared) : Prop := ∃ v H', Inv X pins σ H' s' ∧ RelV v u ∧ Q v H'
def TP (X : Cx) (pins : List (Addr × Obj)) (σ : St) (Q : Bool → Hp → Prop) (b : Bool) (s' : Shared) : Prop := ∃ H', Inv X pins σ H' s' ∧ Q b H'
def AP (X : Cx) (pins : List (Addr × Obj)) (σ : St) (Q : List V → Hp → Prop) (us : List Value) (s' : Shared) : Prop := ∃ vs H', Inv X pins σ H' s' ∧ Vals vs us ∧ Q vs H'
def SP (X : Cx) (pins : List (Addr × Obj)) (D : Ends) (f : Flow) (s' : Shared) : Prop :=
  match f with
  | .next => ∃ σ' H', Inv X pins σ' H' s' ∧ D.nx σ' H'
  | .brk => ∃ σ' H', Inv X pins σ' H' s' ∧ D.bk σ' H'
  | .cont => ∃ σ' H', Inv X pins σ' H' s' ∧ D.ct σ' H'
  | .ret u => ∃ v σ' H', Inv X pins σ' H' s' ∧ RelV v u ∧ D.rt v H'

def PE (X : Cx) (e : Expr) (t : TE) : Prop :=
  ∀ (pins : List (Addr × Obj)) (s : Shared) (σ : St) (H : Hp) (Q : VK), Inv X pins σ H s → t σ H Q → wpAny (model X.prog X.w) X.A (eval e X.env) (EP X pins σ Q) X.xe s
def PT (X : Cx) (e : Expr) (t : TT) : Prop :=
  ∀ (pins : List (Addr × Obj)) (s : Shared) (σ : St) (H : Hp) (Q : Bool → Hp → Prop), Inv X pins σ H s → t σ H Q → wpAny (model X.prog X.w) X.A (isTrue e X.env (eval e X.env)) (TP X pins σ Q) X.xe s
/-- a test whatever its 'whole' is (and, or) -/
def PW (X : Cx) (e : Expr) (t : TT) : Prop :=
  ∀ (whole : Sem Value) (pins : List (Addr × Obj)) (s : Shared) (σ : St) (H : Hp) (Q : Bool → Hp → Prop), Inv X pins σ H s → t σ H Q → wpAny (model X.prog X.w) X.A (isTrue e X.env whole) (TP X pins σ Q) X.xe s
theorem PW.pt {X : Cx} {e : Expr} {t : TT} (h : PW X e t) : PT X e t := h _
/-- an argument list (no star), from the left -/
def PA (X : Cx) (es : List Expr) (t : TA) : Prop :=
  ∀ (pos : Pos) (pins : List (Addr × Obj)) (s : Shared) (σ : St) (H : Hp) (Q : List V → Hp → Prop), Inv X pins σ H s → t σ H Q → wpAny (model X.prog X.w) X.A (spliced (backTo pos (starEach es X.env))) (AP X pins σ Q) X.xe s
def PS (X : Cx) (st : Stmt) (t : TS) : Prop :=
  ∀ (pins : List (Addr × Obj)) (s : Shared) (σ : St) (H : Hp) (D : Ends), Inv X pins σ H s → t D σ H → wpAny (model X.prog X.w) X.A (exec st X.env) (SP X pins D) X.xe s
def PSs (X : Cx) (st : List Stmt) (t : TS) : Prop :=
  ∀ (pins : List (Addr × Obj)) (s : Shared) (σ : St) (H : Hp) (D : Ends), Inv X pins σ H s → t D σ H → wpAny (model X.prog X.w) X.A (execs st X.env) (SP X pins D) X.xe s
/-- weaken the end -/
theorem thn {α : Type} {t : Sem α} {Q Q' : α → Shared → Prop} {M : Model} {A : Around} {E : Value → Shared → Prop} {s : Shared} (h : wpAny M A t Q E s) (hQ : ∀ a s, Q a s → Q' a s) : wpAny M A t Q' E s := wpAny_mono h hQ fun _ _ x => x
end L2

namespace L2
open PySem PySem.Spec PyProof.Rows
section
variable {X : Cx}

/-! ### names and constants -/
def tVar (i : Nat) : TE := fun σ H Q => ∃ v, σ[i]? = some (some v) ∧ Q v H
def tC (v : V) : TE := fun _ H Q => Q v H
theorem pe_var {i : Nat} {x : Str} {pos : Pos} (hN : X.N[i]? = some x) (hv : Vis X.env.scope x) (hd : (x == ("__debug__" : Str)) = false := by decide) (hcd : (x == ("__classdict__" : Str)) = false := by decide) : PE X (.Name x pos) (tVar i) := by
  intro pins s σ H Q I h
  obtain ⟨v, e, h⟩ := h
  obtain ⟨m, hn, hl⟩ := I.loc
  obtain ⟨u, r, l⟩ := hl i x v hN e hv
  have fin : EP X pins σ Q u s := ⟨v, H, I, r, h⟩
  rcases l with ⟨hk, hm⟩ | ⟨hk, c, hc, hcell⟩
  · exact wpAny_Name (wpAny_loadName_local I.ok.kind hk hn hm fin) hd
  · rcases hk with hk | hk
    · exact wpAny_Name (wpAny_loadName_cell I.ok.kind hk hc hcell fin) hd
    · exact wpAny_Name (wpAny_loadName_free I.ok.kind hk hc hcell fin hcd) hd
theorem pe_int {i j pos} : PE X (.Constant (.int i) j pos) (tC (.int i)) := fun _ _ _ H _ I h => wpAny_Constant_int ⟨.int i, H, I.tok _, ⟨_, rfl⟩, h⟩
theorem pe_bl {b j pos} : PE X (.Constant (.bool b) j pos) (tC (.bl b)) := fun _ _ _ H _ I h => Constant_bool ⟨.bl b, H, I, rfl, h⟩
/-- a global name of the def -/
def Gl (X : Cx) (x : Str) : Prop := X.env.kindOf x = some .globalImplicit
theorem ld_glob {E : Value → Shared → Prop} {pins : List (Addr × Obj)} {s : Shared} {σ : St} {H : Hp} {x : Str} {u : Value} {pos : Pos} {Q : Value → Shared → Prop} (I : Inv X pins σ H s) (hg : Gl X x) (hm : X.mg x = some u) (h : Q u s)
    (hd : (x == ("__debug__" : Str)) = false := by decide) : wpAny (model X.prog X.w) X.A (eval (.Name x pos) X.env) Q E s :=
  Calls.Name_function_global I.ok.kind hg (Calls.loadGlobal_global (by rw [I.ok.glob]; exact I.mod.glob.keeps I.bk) hm h) hd
theorem ld_blt {E : Value → Shared → Prop} {pins : List (Addr × Obj)} {s : Shared} {σ : St} {H : Hp} {x : Str} {u : Value} {pos : Pos} {Q : Value → Shared → Prop} (I : Inv X pins σ H s) (hg : Gl X x) (hm : X.mg x = none) (hv : bootBuiltins x = some u) (h : Q u s)
    (hn : x ≠ "__name__" := by decide) (hd : (x == ("__debug__" : Str)) = false := by decide) : wpAny (model X.prog X.w) X.A (eval (.Name x pos) X.env) Q E s := by
  obtain ⟨mb, h1, h2⟩ := I.mod.blt
  exact Calls.Name_function_global I.ok.kind hg (Calls.loadGlobal_builtin (by rw [I.ok.glob]; exact I.mod.glob.keeps I.bk) hm (by rw [I.ok.blt]; exact h1.keeps I.bk) ((h2 x hn).trans hv) h) hd
theorem pe_bltn {x : Str} {v : V} {u : Value} {pos : Pos} (hg : Gl X x) (hm : X.mg x = none) (hv : bootBuiltins x = some u) (r : RelV v u) (hn : x ≠ "__name__" := by decide) (hd : (x == ("__debug__" : Str)) = false := by decide) : PE X (.Name x pos) (tC v) :=
  fun _ _ _ H _ I h => ld_blt I hg hm hv ⟨v, H, I, r, h⟩ hn hd

/-! ### arithmetic -/
variable {a b : Expr} {ta tb : TE} {pos : Pos}
/-! ### comparisons -/
/-- a comparison as a value, as a test -/
def tB (t : TE) : TT := fun σ H Q => t σ H fun x H1 => ∃ c, x = .bl c ∧ Q c H1
/-- an expression whose value is a bool, as a test -/
theorem pt_val {e : Expr} {t : TE} (h : PE X e t) (he : ∀ whole, isTrue e X.env whole = (do let v ← whole; standAt e.pos; holding [v] (truthy v)) := by intro _; rfl) : PT X e (tB t) := by
  intro pins s σ H Q I hw
  refine isTrue_plain (thn (h pins s σ H _ I hw) fun v s1 ⟨x, H1, I1, r1, q1⟩ => ?_) (he _)
  obtain ⟨d, rfl, q⟩ := q1
  cases r1
  exact wpAny_truthy_bool ⟨H1, I1, q⟩

/-! ### and, or, not -/
variable {tA tB' : TT} {rest : List Expr}
def tAnd (t u : TT) : TT := fun σ H Q => t σ H fun c H1 => if c = true then u σ H1 Q else Q false H1
def tOr (t u : TT) : TT := fun σ H Q => t σ H fun c H1 => if c = true then Q true H1 else u σ H1 Q
def tNot (t : TT) : TT := fun σ H Q => t σ H fun c H1 => Q (!c) H1
theorem pw_and1 (ha : PT X a tA) : PW X (.BoolOp .And [a] pos) tA := by
  intro wh pins s σ H Q I h
  refine isTrue_and (thn (ha pins s σ H Q I h) fun c s1 e => ?_)
  cases c with
  | true => exact isTrue_and_nil e
  | false => exact e
theorem pw_or1 (ha : PT X a tA) : PW X (.BoolOp .Or [a] pos) tA := by
  intro wh pins s σ H Q I h
  refine isTrue_or (thn (ha pins s σ H Q I h) fun c s1 e => ?_)
  cases c with
  | false => exact isTrue_or_nil e
  | true => exact e
theorem pw_and (ha : PT X a tA) (hb : PW X (.BoolOp .And (b :: rest) pos) tB') : PW X (.BoolOp .And (a :: b :: rest) pos) (tAnd tA tB') := by
  intro wh pins s σ H Q I h
  refine isTrue_and (thn (ha pins s σ H _ I h) fun c s1 ⟨H1, I1, q1⟩ => ?_)
  cases c with
  | true => exact hb wh pins s1 σ H1 Q I1 q1
  | false => exact ⟨H1, I1, q1⟩
theorem pw_or (ha : PT X a tA) (hb : PW X (.BoolOp .Or (b :: rest) pos) tB') : PW X (.BoolOp .Or (a :: b :: rest) pos) (tOr tA tB') := by
  intro wh pins s σ H Q I h
  refine isTrue_or (thn (ha pins s σ H _ I h) fun c s1 ⟨H1, I1, q1⟩ => ?_)
  cases c with
  | true => exact ⟨H1, I1, q1⟩
  | false => exact hb wh pins s1 σ H1 Q I1 q1
theorem pt_not (ha : PT X a tA) : PT X (.UnaryOp .Not a pos) (tNot tA) := by
  intro pins s σ H Q I h
  exact isTrue_not (ha pins s σ H (fun c H1 => Q (!c) H1) I h)
/-- .. as values (bools) -/
def tAndV (ta tb : TE) : TE := fun σ H Q => ta σ H fun x H1 => ∃ c, x = .bl c ∧ if c = true then tb σ H1 Q else Q (.bl false) H1
def tNotV (ta : TE) : TE := fun σ H Q => ta σ H fun x H1 => ∃ c, x = .bl c ∧ Q (.bl (!c)) H1
theorem pe_one {op} {t : TE} (h : PE X a t) : PE X (.BoolOp op [a] pos) t := fun pins s σ H Q I hw => BoolOp_one (h pins s σ H Q I hw)
theorem pe_and (ha : PE X a ta) (hb : PE X (.BoolOp .And (b :: rest) pos) tb) : PE X (.BoolOp .And (a :: b :: rest) pos) (tAndV ta tb) := by
  intro pins s σ H Q I h
  refine BoolOp_and (thn (ha pins s σ H _ I h) fun v s1 ⟨x, H1, I1, r1, q1⟩ => ?_)
  obtain ⟨c, rfl, q1⟩ := q1
  cases r1
  refine wpAny_truthy_bool ?_
  cases c with
  | true => exact hb pins s1 σ H1 Q I1 q1
  | false => exact ⟨.bl false, H1, I1, rfl, q1⟩
theorem pe_not (ha : PE X a ta) : PE X (.UnaryOp .Not a pos) (tNotV ta) := by
  intro pins s σ H Q I h
  refine UnaryOp_ (thn (ha pins s σ H _ I h) fun v s1 ⟨x, H1, I1, r1, q1⟩ => ?_)
  obtain ⟨c, rfl, q1⟩ := q1
  cases r1
  exact not_of (wpAny_truthy_bool ⟨.bl (!c), H1, I1, rfl, q1⟩)
end
end L2

namespace L2
open PySem PySem.Spec PyProof.Rows

/-! ### a list, a tuple that is read: tracked, frozen, or an object of the module -/
def SqL (K : PySem.W.Frag) (H : Hp) (a : Addr) (xs : List V) : Prop :=
  Rd H a (.lst xs) ∨
    ∃ (o : Obj) (its : Array Value) (n : Nat), K.lookup a = some o ∧ o.cls = .type "list" ∧ o.dict = none ∧ o.data = .seq its n ∧ its.size ≤ sizeLine ∧ Vals xs its.toList
def SqT (K : PySem.W.Frag) (H : Hp) (a : Addr) (xs : List V) : Prop :=
  Rd H a (.tup xs) ∨
    ∃ (o : Obj) (its : Array Value) (n : Nat), K.lookup a = some o ∧ o.cls = .type "tuple" ∧ o.data = .seq its n ∧ its.size ≤ sizeLine ∧ Vals xs its.toList
def absV : Value → Option V
  | .none => some .non
  | .bool b => some (.bl b)
  | .int i _ => some (.int i)
  | .str x _ => some (.str x)
  | .bytes b _ => some (.byt b)
  | .float b _ => some (.flt b)
  | .ref a => some (.ref a)
  | .type n => some (.ty n)
  | _ => none
theorem RelV.abs {x : V} {u : Value} (r : RelV x u) : absV u = some x := by
  cases x with
  | non => cases r; rfl
  | bl _ => cases r; rfl
  | int _ => obtain ⟨t, rfl⟩ := r; rfl
  | str _ => obtain ⟨t, rfl⟩ := r; rfl
  | byt _ => obtain ⟨t, rfl⟩ := r; rfl
  | flt _ => obtain ⟨t, rfl⟩ := r; rfl
  | ref _ => cases r; rfl
  | ty _ => cases r; rfl
theorem RelV.inj {x y : V} {u : Value} (r : RelV x u) (q : RelV y u) : x = y := Option.some.inj (r.abs.symm.trans q.abs)
theorem Vals.inj : ∀ {xs ys : List V} {us : List Value}, Vals xs us → Vals ys us → xs = ys
  | _, _, _, .nil, .nil => rfl
  | _, _, _, .cons r t, .cons r' t' => by rw [r.inj r', Vals.inj t t']
section
variable {X : Cx} {pins : List (Addr × Obj)} {σ : St} {H : Hp} {s : Shared} {a : Addr} {xs ys : List V}
theorem SqL.of {K : PySem.W.Frag} (h : H a = some (.lst xs)) : SqL K H a xs := .inl (.inl h)
theorem SqT.of {K : PySem.W.Frag} (h : H a = some (.tup xs)) : SqT K H a xs := .inl (.inl h)
theorem Inv.list (I : Inv X pins σ H s) (h : SqL X.K H a xs) : ∃ its : List Value, Vals xs its ∧ PlainL s.heap a its.toArray ∧ xs.length ≤ sizeLine := by
  rcases h with h | ⟨o, its, n, hk, hc, hd, hs, hz, r⟩
  · obtain ⟨z, its, n, r, e⟩ := h.ok I.hok
    exact ⟨its, r, ⟨_, n, e, rfl, rfl, rfl⟩, z⟩
  · refine ⟨its.toList, r, ⟨o, n, I.kIn a o hk, hc, hd, by simpa using hs⟩, ?_⟩
    have e := r.length
    simp only [Array.length_toList] at e
    omega
theorem Inv.tuple (I : Inv X pins σ H s) (h : SqT X.K H a xs) : ∃ its : List Value, Vals xs its ∧ IsTup s.heap a its.toArray ∧ xs.length ≤ sizeLine := by
  rcases h with h | ⟨o, its, n, hk, hc, hs, hz, r⟩
  · obtain ⟨z, its, r, p⟩ := h.ok I.hok
    exact ⟨its, r, p, z⟩
  · refine ⟨its.toList, r, ⟨o, I.kIn a o hk, hc, n, by simpa using hs⟩, ?_⟩
    have e := r.length
    simp only [Array.length_toList] at e
    omega
theorem Inv.list_inj (I : Inv X pins σ H s) (h : SqL X.K H a xs) (h' : SqL X.K H a ys) : xs = ys := by
  obtain ⟨its, r, ⟨o, n, e, _, _, d⟩, _⟩ := I.list h
  obtain ⟨its', r', ⟨o', n', e', _, _, d'⟩, _⟩ := I.list h'
  rw [e] at e'; cases e'
  rw [d] at d'
  injection d' with d1 _
  have : its = its' := by simpa using congrArg Array.toList d1
  subst this
  exact r.inj r'
theorem Inv.tuple_inj (I : Inv X pins σ H s) (h : SqT X.K H a xs) (h' : SqT X.K H a ys) : xs = ys := by
  obtain ⟨its, r, ⟨o, e, _, n, d⟩, _⟩ := I.tuple h
  obtain ⟨its', r', ⟨o', e', _, n', d'⟩, _⟩ := I.tuple h'
  rw [e] at e'; cases e'
  rw [d] at d'
  injection d' with d1 _
  have : its = its' := by simpa using congrArg Array.toList d1
  subst this
  exact r.inj r'
end

/-! ### another wish about exceptions -/
abbrev Cx.wish (X : Cx) (E : Value → Shared → Prop) : Cx := { X with xe := E }
/-- no exception leaves -/
abbrev Cx.nox (X : Cx) : Cx := X.wish fun _ _ => False
theorem Cx.Ok.wish {X : Cx} (ok : X.Ok) (E : Value → Shared → Prop) : (X.wish E).Ok :=
  ⟨ok.mod, ok.kind, ok.glob, ok.blt, ok.above, ok.inj, ok.has, ok.cab, ok.hd, ok.frames, ok.stk, ok.exf, ok.bs, ok.bsz, ok.noex, ok.exfs, ok.funs, ok.frf⟩
theorem Cx.Ok.unwish {X : Cx} {E : Value → Shared → Prop} (ok : (X.wish E).Ok) : X.Ok :=
  ⟨ok.mod, ok.kind, ok.glob, ok.blt, ok.above, ok.inj, ok.has, ok.cab, ok.hd, ok.frames, ok.stk, ok.exf, ok.bs, ok.bsz, ok.noex, ok.exfs, ok.funs, ok.frf⟩
section
variable {X : Cx} {pins : List (Addr × Obj)} {σ : St} {H : Hp} {s : Shared} {E : Value → Shared → Prop}
theorem Inv.wish (I : Inv X pins σ H s) (E : Value → Shared → Prop) : Inv (X.wish E) pins σ H s := ⟨I.ok.wish E, I.os, I.bare, I.base, I.loc, I.cell, I.free, I.freeC, I.pin, I.hok, I.len⟩
theorem Inv.unwish (I : Inv (X.wish E) pins σ H s) : Inv X pins σ H s := ⟨I.ok.unwish, I.os, I.bare, I.base, I.loc, I.cell, I.free, I.freeC, I.pin, I.hok, I.len⟩
theorem SP.unwish {D : Ends} {f : Flow} {s' : Shared} (h : SP (X.wish E) pins D f s') : SP X pins D f s' := by
  cases f with
  | next => obtain ⟨σ', H', I, q⟩ := h; exact ⟨σ', H', I.unwish, q⟩
  | brk => obtain ⟨σ', H', I, q⟩ := h; exact ⟨σ', H', I.unwish, q⟩
  | cont => obtain ⟨σ', H', I, q⟩ := h; exact ⟨σ', H', I.unwish, q⟩
  | ret u => obtain ⟨v, σ', H', I, r, q⟩ := h; exact ⟨v, σ', H', I.unwish, r, q⟩
theorem PE.nox {e : Expr} {t : TE} (h : PE X.nox e t) : PE X e t := fun pins s σ H Q I hw =>
  wpAny_mono (h pins s σ H Q (I.wish _) hw) (fun _ _ ⟨v, H', I', r, q⟩ => ⟨v, H', I'.unwish, r, q⟩) fun _ _ z => False.elim z
theorem PT.nox {e : Expr} {t : TT} (h : PT X.nox e t) : PT X e t := fun pins s σ H Q I hw =>
  wpAny_mono (h pins s σ H Q (I.wish _) hw) (fun _ _ ⟨H', I', q⟩ => ⟨H', I'.unwish, q⟩) fun _ _ z => False.elim z
theorem PSs.nox {st : List Stmt} {t : TS} (h : PSs X.nox st t) : PSs X st t := fun pins s σ H D I hw =>
  wpAny_mono (h pins s σ H D (I.wish _) hw) (fun _ _ q => q.unwish) fun _ _ z => False.elim z
end

/-! ### blocks and small statements -/
section
variable {X : Cx} {st : Stmt} {rest : List Stmt} {t u : TS} {e : Expr} {te : TE} {pos : Pos}
def tNext : TS := fun D σ H => D.nx σ H
def tSeq (t u : TS) : TS := fun D σ H => t { D with nx := u D } σ H
theorem pss_nil : PSs X [] tNext := fun _ _ σ H _ I h => wpAny_execs_nil ⟨σ, H, I, h⟩
theorem pss_cons (h1 : PS X st t) (h2 : PSs X rest u) : PSs X (st :: rest) (tSeq t u) := by
  intro pins s σ H D I h
  refine wpAny_execs_cons (thn (h1 pins s σ H { D with nx := u D } I h) fun f s1 q => ?_)
  cases f with
  | next =>
    obtain ⟨σ', H', I', q⟩ := q
    exact h2 pins s1 σ' H' D I' q
  | ret v => exact q
  | brk => exact q
  | cont => exact q
theorem pss_one (h1 : PS X st t) : PSs X [st] t := by
  intro pins s σ H D I h
  refine wpAny_execs_cons (thn (h1 pins s σ H D I h) fun f s1 q => ?_)
  cases f with
  | next => exact wpAny_execs_nil q
  | ret v => exact q
  | brk => exact q
  | cont => exact q
/-- in a def's body nothing is shown -/
theorem Inv.quiet {pins : List (Addr × Obj)} {σ : St} {H : Hp} {s : Shared} (I : Inv X pins σ H s) : interactive X.env = false := by simp [interactive, I.ok.kind]
/-- an expression whose value is dropped -/
def tDrop (te : TE) : TS := fun D σ H => te σ H fun _ H1 => D.nx σ H1
theorem ps_expr (he : PE X e te) (hs : swapsWith e none pos.line X.env = pure false := by rfl) : PS X (.Expr e pos) (tDrop te) := by
  intro pins s σ H D I h
  exact wpAny_Expr_any (thn (he pins s σ H _ I h) fun v s1 ⟨x, H1, I1, r1, q1⟩ => ⟨σ, H1, I1, q1⟩) I.quiet hs
def tRet (te : TE) : TS := fun D σ H => te σ H D.rt
theorem ps_ret (he : PE X e te) : PS X (.Return (some e) pos) (tRet te) := by
  intro pins s σ H D I h
  exact wpAny_Return_some (thn (he pins s σ H _ I h) fun v s1 ⟨x, H1, I1, r1, q1⟩ => ⟨x, σ, H1, I1, r1, q1⟩)
def tIfS (c : TT) (t u : TS) : TS := fun D σ H => c σ H fun b H1 => if b = true then t D σ H1 else u D σ H1
theorem ps_if {c : Expr} {a b : List Stmt} {tc : TT} (hc : PT X c tc) (ha : PSs X a t) (hb : PSs X b u) : PS X (.If c a b pos) (tIfS tc t u) := by
  intro pins s σ H D I h
  refine wpAny_If (thn (hc pins s σ H _ I h) fun d s1 ⟨H1, I1, q1⟩ => ?_)
  cases d with
  | true => exact ha pins s1 σ H1 D I1 q1
  | false => exact hb pins s1 σ H1 D I1 q1
end

/-! ### targets -/
abbrev TG := V → St → Hp → (St → Hp → Prop) → Prop
abbrev TGs := List V → St → Hp → (St → Hp → Prop) → Prop
def PG (X : Cx) (target : Expr) (t : TG) : Prop :=
  ∀ (pins : List (Addr × Obj)) (s : Shared) (σ : St) (H : Hp) (v : V) (u : Value) (Q : St → Hp → Prop), Inv X pins σ H s → RelV v u → t v σ H Q →
    wpAny (model X.prog X.w) X.A (assign target X.env u) (fun _ s' => ∃ σ' H', Inv X pins σ' H' s' ∧ Q σ' H') X.xe s
/-- several targets, one after another -/
def PGs (X : Cx) (ts : List Expr) (t : TGs) : Prop :=
  ∀ (pins : List (Addr × Obj)) (s : Shared) (σ : St) (H : Hp) (vs : List V) (us : List Value) (Q : St → Hp → Prop), Inv X pins σ H s → Vals vs us → t vs σ H Q →
    wpAny (model X.prog X.w) X.A (assignInOrder ((assignEach ts X.env).map (·.2)) us) (fun _ s' => ∃ σ' H', Inv X pins σ' H' s' ∧ Q σ' H') X.xe s
/-- o[i] = v, by values -/
abbrev TSet := V → V → V → Hp → (Hp → Prop) → Prop
section
variable {X : Cx} {pos : Pos}
def gName (i : Nat) : TG := fun v σ H Q => Q (σ.set i (some v)) H
theorem pg_name {i : Nat} {x : Str} (hN : X.N.Nodup) (hi : X.N[i]? = some x) (hx : Loc X.env.scope x) (hf : X.fn x = true ∨ X.env.scope.names.lookup x = some .local := by first | exact .inl rfl | exact .inr rfl | assumption) : PG X (.Name x pos) (gName i) := by
  intro pins s σ H v u Q I r h
  exact wpAny_assign_Name (store_ok I hN hi hx r (fun s' I' => ⟨_, H, I', h⟩) hf)
def gNil : TGs := fun vs σ H Q => vs = [] ∧ Q σ H
def gCons (t : TG) (u : TGs) : TGs := fun vs σ H Q => ∃ v r, vs = v :: r ∧ t v σ H fun σ' H' => u r σ' H' Q
theorem pgs_nil : PGs X [] gNil := by
  intro pins s σ H vs us Q I r h
  obtain ⟨e, h⟩ := h
  subst e
  cases r
  exact assignInOrder_nil ⟨σ, H, I, h⟩
theorem pgs_cons {e : Expr} {es : List Expr} {t : TG} {u : TGs} (h1 : PG X e t) (h2 : PGs X es u)
    (hs : (assignEach (e :: es) X.env).map (·.2) = assign e X.env :: (assignEach es X.env).map (·.2) := by rfl) : PGs X (e :: es) (gCons t u) := by
  intro pins s σ H vs us Q I r h
  obtain ⟨v, vr, e1, h⟩ := h
  subst e1
  cases r with
  | cons r rr =>
    rw [hs]
    refine assignInOrder_cons (thn (h1 pins s σ H _ _ _ I r h) fun _ s1 ⟨σ1, H1, I1, q1⟩ => ?_)
    exact h2 pins s1 σ1 H1 _ _ Q I1 rr q1
/-- o[i] = .. -/
def gSub (to ti : TE) (t : TSet) : TG := fun v σ H Q => to σ H fun o H1 => ti σ H1 fun i H2 => t o i v H2 fun H3 => Q σ H3
/-- target = value -/
def tAsg (te : TE) (g : TG) : TS := fun D σ H => te σ H fun x H1 => g x σ H1 D.nx
theorem ps_asg {tg e : Expr} {te : TE} {g : TG} (he : PE X e te) (hg : PG X tg g) (hs : swapsWithSole [tg] e pos.line X.env = pure false := by rfl) (hw : swappedStores [tg] e X.env = pure none := by rfl)
    (h1 : (assignEach [tg] X.env).map (·.2) = [assign tg X.env] := by rfl) : PS X (.Assign [tg] e pos) (tAsg te g) := by
  intro pins s σ H D I h
  refine wpAny_Assign_stores (thn (he pins s σ H _ I h) fun v s1 ⟨x, H1, I1, r1, q1⟩ => ?_) hs hw
  rw [h1]
  exact thn (hg pins s1 σ H1 x v _ I1 r1 q1) fun _ s2 q => q
/-- name = value -/
theorem ps_set {i : Nat} {x : Str} {e : Expr} {te : TE} {pos' : Pos} (hN : X.N.Nodup) (hi : X.N[i]? = some x) (hx : Loc X.env.scope x) (he : PE X e te) (hs : swapsWith e (some (.Name x pos')) pos.line X.env = pure false := by rfl) (hf : X.fn x = true ∨ X.env.scope.names.lookup x = some .local := by first | exact .inl rfl | exact .inr rfl | assumption) :
    PS X (.Assign [.Name x pos'] e pos) (tAsg te (gName i)) := by
  intro pins s σ H D I h
  refine wpAny_Assign_Name (thn (he pins s σ H _ I h) fun v s1 ⟨y, H1, I1, r1, q1⟩ => ?_) hs
  exact store_ok I1 hN hi hx r1 (fun s2 I2 => ⟨_, H1, I2, q1⟩) hf
/-- a, b = x, y with plain local names: stored from the right; the pair itself is not tracked (the opening rows as in PyProof/Rows/TupAssign.lean:23) -/
def tPar (i j : Nat) (ta : TA) : TS := fun D σ H => ta σ H fun vs H1 => ∃ v w, vs = [v, w] ∧ D.nx ((σ.set i (some v)).set j (some w)) H1
theorem ps_par {i j : Nat} {x y : Str} {a b : Expr} {ta : TA} {px py pt : Pos} {kt k2 pt2} (hc : X.calm = true) (hN : X.N.Nodup) (hi : X.N[i]? = some x) (hj : X.N[j]? = some y) (hij : i ≠ j)
    (hx : X.env.scope.names.lookup x = some .local) (hy : X.env.scope.names.lookup y = some .local) (ha : PA X [a, b] ta)
    (hw : swappedStores [.Tuple [.Name x px, .Name y py] kt pt] (.Tuple [a, b] k2 pt2) X.env = pure (some [x, y]))
    (hs : swapsWithSole [.Tuple [.Name x px, .Name y py] kt pt] (.Tuple [a, b] k2 pt2) pos.line X.env = pure false := by rfl) :
    PS X (.Assign [.Tuple [.Name x px, .Name y py] kt pt] (.Tuple [a, b] k2 pt2) pos) (tPar i j ta) := by
  intro pins s σ H D I h
  rw [exec_Assign_arm]
  refine wpAny_bind (wpAny_standAt ?_)
  rw [hs]
  refine wpAny_bind (wpAny_pure ?_)
  rw [if_neg (by decide)]
  refine wpAny_bind (Tuple_ (thn (ha _ pins s σ H _ I h) fun us s1 ⟨vs, H1, I1, r1, q1⟩ => ?_))
  obtain ⟨v, w, e1, q1⟩ := q1
  subst e1
  obtain ⟨u1, u2, rfl, rv, rw'⟩ : ∃ u1 u2, us = [u1, u2] ∧ RelV v u1 ∧ RelV w u2 := by
    cases r1 with
    | cons p q =>
      cases q with
      | cons p' q' =>
        cases q'
        exact ⟨_, _, rfl, p, p'⟩
  refine wpAny_newObj_type ?_ (by show 2 ≤ sizeLine; decide)
  have I2 : Inv X pins σ H1 { s1 with heap := s1.heap.push { cls := .type "tuple", data := .seq [u1, u2].toArray } } := I1.kept (t' := s1.toks) fun b o e => Heap.get?_push_of_some _ e
  rw [hw]
  refine wpAny_bind (wpAny_pure ?_)
  show wpAny (model X.prog X.w) X.A (do rule "assign.swapped-stores"; let items ← unpackItems (.ref s1.heap.objs.size) 2 none; assignInOrder [fun v => bindName X.env y v, fun v => bindName X.env x v] items.reverse; pure Flow.next) _ _ _
  refine wpAny_bind (wpAny_rule (wpAny_bind (unpackItems_tuple (items := #[u1, u2]) (I.ok.hd hc) (IsTup.new s1.heap _) fun h' hx' => ?_)))
  have I3 := I2.kept (h' := h') (t' := s1.toks) fun b o e => hx' b o (Nat.ne_of_lt (Heap.lt_size e)) e
  show wpAny _ _ (assignInOrder [fun v => bindName X.env y v, fun v => bindName X.env x v] [u2, u1] >>= fun _ => pure Flow.next) _ _ _
  refine wpAny_bind (assignInOrder_cons (wpAny_bindName (store_ok I3 hN hj (.inl hy) rw' (fun s2 I4 => ?_) (.inr hy))))
  refine assignInOrder_cons (wpAny_bindName (store_ok I4 hN hi (.inl hx) rv (fun s3 I5 => assignInOrder_nil (wpAny_pure ?_)) (.inr hx)))
  rw [List.set_comm _ _ (Ne.symm hij)] at I5
  exact ⟨_, H1, I5, q1⟩
end

/-! ### while -/
section
variable {X : Cx} {pos : Pos}
/-- the invariant W with its measure -/
def tWhile (c : TT) (tb : TS) : TS := fun D σ H => ∃ W : Nat → St → Hp → Prop, (∃ m, W m σ H) ∧ ∀ m σ H, W m σ H →
  c σ H fun b H1 => if b = true then ∃ N : St → Hp → Prop, (∀ σ' H', N σ' H' → ∃ m', m' < m ∧ W m' σ' H') ∧ tb { D with nx := N, ct := N, bk := D.nx } σ H1 else D.nx σ H1
theorem ps_while {c : Expr} {body : List Stmt} {tc : TT} {tb : TS} (hp : PassesOwn (model X.prog X.w) X.A X.env X.xe) (hc : PT X c tc) (hb : PSs X body tb) : PS X (.While c body [] pos) (tWhile tc tb) := by
  intro pins s σ H D I h
  obtain ⟨W, ⟨m0, w0⟩, turn⟩ := h
  refine wpAny_While (codeAny_whileLoop (fun n s' => ∃ σ' H', Inv X pins σ' H' s' ∧ W n σ' H') ?_ m0 ⟨σ, H, I, w0⟩)
  rintro n s1 ⟨σ1, H1, I1, w1⟩
  refine wpAny_passesOwn hp (thn (hc pins s1 σ1 H1 _ I1 (turn n σ1 H1 w1)) fun b s2 ⟨H2, I2, q2⟩ => ?_)
  cases b with
  | true =>
    obtain ⟨N, hN, q2⟩ := q2
    rw [if_pos rfl]
    refine wpAny_passesOwn hp (thn (hb pins s2 σ1 H2 _ I2 q2) fun f s3 q3 => ?_)
    cases f with
    | next =>
      obtain ⟨σ3, H3, I3, n3⟩ := q3
      obtain ⟨m', hm, w3⟩ := hN σ3 H3 n3
      exact ⟨m', hm, σ3, H3, I3, w3⟩
    | cont =>
      obtain ⟨σ3, H3, I3, n3⟩ := q3
      obtain ⟨m', hm, w3⟩ := hN σ3 H3 n3
      exact ⟨m', hm, σ3, H3, I3, w3⟩
    | brk => exact q3
    | ret v => exact q3
  | false =>
    rw [if_neg Bool.false_ne_true]
    exact wpAny_execs_nil ⟨σ1, H2, I2, q2⟩
end

/-! ### what a loop or a comprehension walks -/
/-- at turn i: it yields x (the heap may grow), or it stops -/
structure It where
  go : Nat → Hp → Prop
  yld : Nat → Hp → V → Hp → Prop
  stop : Nat → Hp → Prop
/-- the iterator's own objects may turn: they are not the frame's, not pinned, younger than the entry (or a comprehension's own) -/
def FpOk (X : Cx) (pins : List (Addr × Obj)) (H : Hp) (b : Addr) : Prop :=
  H b = none ∧ b ≠ X.env.locals ∧ b ∉ X.fs ∧ (b ∈ X.ex ∨ X.s₀.heap.objs.size ≤ b) ∧ (∀ x c, X.env.cells.lookup x = some c → c ≠ b) ∧ ∀ p ∈ X.pn ++ pins, p.1 ≠ b
theorem Inv.fpOk {X : Cx} {pins : List (Addr × Obj)} {σ : St} {H H' : Hp} {s : Shared} {b : Addr} (I : Inv X pins σ H s) (hb : s.heap.objs.size ≤ b) (hn : H' b = none) : FpOk X pins H' b := by
  refine ⟨hn, Nat.ne_of_gt (Nat.lt_of_lt_of_le I.lt hb), I.nofs hb, .inr (Nat.le_trans I.sz hb), fun x c e z => ?_, fun p hp z => ?_⟩
  · obtain ⟨v, q⟩ := I.cell x c e
    exact absurd (Nat.lt_of_lt_of_le q.lt (by rw [z]; exact hb)) (Nat.lt_irrefl _)
  · exact absurd (Nat.lt_of_lt_of_le (Heap.lt_size (I.pin p hp).1) (by rw [z]; exact hb)) (Nat.lt_irrefl _)
structure Turn (P : Program) (w : World) (K : PySem.W.Frag) (tg : Expr) (J : It) (fp : List Addr) (it : Addr) (tn : Nat → Heap → Prop) : Prop where
  mem : it ∈ fp
  obj : ∀ i h, tn i h → ∀ b ∈ fp, ∃ o, h.get? b = some o ∧ ∀ v, o.data ≠ .cell v
  keep : ∀ i h h', tn i h → (∀ b ∈ fp, ∀ o, h.get? b = some o → h'.get? b = some o) → tn i h'
  item : ∀ (X : Cx), X.prog = P → X.w = w → X.K = K → X.calm = true → ∀ (i : Nat) (pins : List (Addr × Obj)) (s : Shared) (σ : St) (H : Hp) (E : Value → Shared → Prop), Inv X pins σ H s → (∀ b ∈ fp, FpOk X pins H b) → tn i s.heap → J.go i H →
    wpAny (model P w) X.A (pyNext (.ref it)) (fun r s1 => ∃ u, r = some u ∧
      wpAny (model P w) X.A (letOwnedTupleGo tg (.ref it) u) (fun _ s2 => ∃ x H', Inv X pins σ H' s2 ∧ RelV x u ∧ J.yld i H x H' ∧ tn (i + 1) s2.heap ∧ ∀ b ∈ fp, H' b = none) E s1) E s
  done : ∀ (X : Cx), X.prog = P → X.w = w → X.K = K → X.calm = true → ∀ (i : Nat) (pins : List (Addr × Obj)) (s : Shared) (σ : St) (H : Hp) (E : Value → Shared → Prop), Inv X pins σ H s → (∀ b ∈ fp, FpOk X pins H b) → tn i s.heap → J.stop i H →
    wpAny (model P w) X.A (pyNext (.ref it)) (fun r s1 => r = none ∧ Inv X pins σ H s1) E s
  self : ∀ (A : Around) (i : Nat) (s : Shared) (Q : Value → Shared → Prop) (E : Value → Shared → Prop), tn i s.heap → Q (.ref it) s → wpAny (model P w) A (pyIter (.ref it)) Q E s
abbrev TI := St → Hp → (It → Hp → Prop) → Prop
/-- an iterator has come -/
def PIE (X : Cx) (pins : List (Addr × Obj)) (σ : St) (tg : Expr) (R : It → Hp → Prop) (itv : Value) (s2 : Shared) : Prop :=
  ∃ (it : Addr) (fp : List Addr) (tn : Nat → Heap → Prop) (J : It) (H' : Hp), itv = .ref it ∧ Inv X pins σ H' s2 ∧ Turn X.prog X.w X.K tg J fp it tn ∧ tn 0 s2.heap ∧ (∀ b ∈ fp, FpOk X pins H' b) ∧ R J H'
def PI (X : Cx) (tg iter : Expr) (wi : TI) : Prop :=
  ∀ (pins : List (Addr × Obj)) (s : Shared) (σ : St) (H : Hp) (R : It → Hp → Prop), Inv X pins σ H s → wi σ H R →
    wpAny (model X.prog X.w) X.A (eval iter X.env) (fun v s1 => wpAny (model X.prog X.w) X.A (pyIter v) (PIE X pins σ tg R) X.xe s1) X.xe s

/-- the step ahead of the store is nothing for an iterator that keeps no tuple -/
theorem go_of {M : Model} {A : Around} {E : Value → Shared → Prop} {s : Shared} {tg : Expr} {it : Addr} {u : Value} {o : Obj} {n : String} {vs : Array Value} {Q : Unit → Shared → Prop} (ho : s.heap.get? it = some o) (hc : o.cls = .type n) (hd : o.data = .fields vs)
    (hn : ["enumerate", "zip", "dict_itemiterator", "dict_reverseitemiterator", "odict_iterator", "itertools.zip_longest", "itertools.pairwise"].contains n = false) (hQ : Q () s) : wpAny M A (letOwnedTupleGo tg (.ref it) u) Q E s := by
  unfold letOwnedTupleGo
  cases tg <;> first
    | exact wpAny_pure hQ
    | (cases u <;> first
        | exact wpAny_pure hQ
        | (refine wpAny_bind (wpAny_load ho ?_)
           rw [hc, hd]
           show wpAny M A (if (["enumerate", "zip", "dict_itemiterator", "dict_reverseitemiterator", "odict_iterator", "itertools.zip_longest", "itertools.pairwise"].contains n && vs[0]? == some (rawInt _)) = true then _ else _) Q E s
           rw [if_neg (by intro h; rw [hn, Bool.false_and] at h; cases h)]
           exact wpAny_pure hQ))

/-- the list at a, as it stands at each turn (a loop may append to it) -/
def Itl (K : PySem.W.Frag) (a : Addr) : It :=
  ⟨fun i H => ∃ xs x, SqL K H a xs ∧ xs[i]? = some x, fun i H x H' => H' = H ∧ ∀ xs, SqL K H a xs → xs[i]? = some x, fun i H => ∃ xs, SqL K H a xs ∧ xs.length ≤ i⟩
def Itt (K : PySem.W.Frag) (a : Addr) : It :=
  ⟨fun i H => ∃ xs x, SqT K H a xs ∧ xs[i]? = some x, fun i H x H' => H' = H ∧ ∀ xs, SqT K H a xs → xs[i]? = some x, fun i H => ∃ xs, SqT K H a xs ∧ xs.length ≤ i⟩
/-- lo, lo + 1, .. (n of them) -/
def Itr (lo : Int) (n : Nat) : It := ⟨fun i _ => i < n, fun i H x H' => H' = H ∧ x = .int (lo + i), fun i _ => n ≤ i⟩
theorem turn_list {P : Program} {w : World} {K : PySem.W.Frag} {tg : Expr} (a it : Addr) : Turn P w K tg (Itl K a) [it] it (fun i h => h.IsListIter it a i) where
  mem := by simp
  obj := fun i h st b hb => by
    have e : b = it := by simpa using hb
    subst e
    obtain ⟨o, e, c, d⟩ := st
    exact ⟨o, e, fun v z => by rw [d] at z; cases z⟩
  keep := fun i h h' st k => st.at fun o e => k it (by simp) o e
  item := by
    intro X hP hw hK hc i pins s σ H E I hf st hg
    subst hP hw hK
    obtain ⟨xs, x, hq, hx⟩ := hg
    obtain ⟨its, rv, p, hz⟩ := I.list hq
    obtain ⟨u, hu, ru⟩ := rv.get hx
    obtain ⟨f0, f1, f2, f3, f4, f5⟩ := hf it (by simp)
    refine wpAny_pyNext_list_item st p.isList (x := u) (by simpa using hu) fun h' st' sb => ?_
    have I1 : Inv X pins σ H { s with heap := h' } := I.turned (t' := s.toks) (fun b o hb e => (sb.2 b hb).trans e) f0 f1 f3 f4 f5
    obtain ⟨o, e, c, d⟩ := id st'
    exact ⟨u, rfl, go_of (s := { s with heap := h' }) e c d (by decide) ⟨x, H, I1, ru, ⟨rfl, fun ys hy => by rw [I.list_inj hy hq]; exact hx⟩, st', fun b hb => (hf b hb).1⟩⟩
  done := by
    intro X hP hw hK hc i pins s σ H E I hf st hg
    subst hP hw hK
    obtain ⟨xs, hq, hx⟩ := hg
    obtain ⟨its, rv, p, hz⟩ := I.list hq
    obtain ⟨f0, f1, f2, f3, f4, f5⟩ := hf it (by simp)
    have hl := rv.length
    exact wpAny_pyNext_list_end (I.ok.hd hc) st p.isList (by simp; omega) fun h' eb => ⟨rfl, I.turned (t' := s.toks) (fun b o hb e => eb b o hb e) f0 f1 f3 f4 f5⟩
  self := fun _ _ _ _ _ st h => wpAny_pyIter_listiter st h
theorem turn_tuple {P : Program} {w : World} {K : PySem.W.Frag} {tg : Expr} (a it : Addr) : Turn P w K tg (Itt K a) [it] it (fun i h => h.IsTupleIter it a i) where
  mem := by simp
  obj := fun i h st b hb => by
    have e : b = it := by simpa using hb
    subst e
    obtain ⟨o, e, c, d⟩ := st
    exact ⟨o, e, fun v z => by rw [d] at z; cases z⟩
  keep := fun i h h' st k => st.at fun o e => k it (by simp) o e
  item := by
    intro X hP hw hK hc i pins s σ H E I hf st hg
    subst hP hw hK
    obtain ⟨xs, x, hq, hx⟩ := hg
    obtain ⟨its, rv, p, hz⟩ := I.tuple hq
    obtain ⟨u, hu, ru⟩ := rv.get hx
    obtain ⟨f0, f1, f2, f3, f4, f5⟩ := hf it (by simp)
    refine wpAny_pyNext_tuple_item st (show s.heap.IsTuple a its.toArray from p) (x := u) (by simpa using hu) fun h' st' sb => ?_
    have I1 : Inv X pins σ H { s with heap := h' } := I.turned (t' := s.toks) (fun b o hb e => (sb.2 b hb).trans e) f0 f1 f3 f4 f5
    obtain ⟨o, e, c, d⟩ := id st'
    exact ⟨u, rfl, go_of (s := { s with heap := h' }) e c d (by decide) ⟨x, H, I1, ru, ⟨rfl, fun ys hy => by rw [I.tuple_inj hy hq]; exact hx⟩, st', fun b hb => (hf b hb).1⟩⟩
  done := by
    intro X hP hw hK hc i pins s σ H E I hf st hg
    subst hP hw hK
    obtain ⟨xs, hq, hx⟩ := hg
    obtain ⟨its, rv, p, hz⟩ := I.tuple hq
    obtain ⟨f0, f1, f2, f3, f4, f5⟩ := hf it (by simp)
    have hl := rv.length
    exact wpAny_pyNext_tuple_end (I.ok.hd hc) st (show s.heap.IsTuple a its.toArray from p) (by simp; omega) fun h' eb => ⟨rfl, I.turned (t' := s.toks) (fun b o hb e => eb b o hb e) f0 f1 f3 f4 f5⟩
  self := fun _ _ _ _ _ st h => wpAny_pyIter_tupleiter st h
theorem turn_range {P : Program} {w : World} {K : PySem.W.Frag} {tg : Expr} (it : Addr) (lo : Int) (n : Nat) : Turn P w K tg (Itr lo n) [it] it (fun i h => IsRangeIter h it (lo + (i : Nat) * 1) ((n : Int) - (i : Nat)) 1) where
  mem := by simp
  obj := fun i h st b hb => by
    have e : b = it := by simpa using hb
    subst e
    exact ⟨_, st, fun v z => by
      have z' : Data.fields _ = Data.cell v := z
      cases z'⟩
  keep := fun i h h' st k => k it (by simp) _ st
  item := by
    intro X hP hw hK hc i pins s σ H E I hf st hg
    subst hP hw hK
    obtain ⟨f0, f1, f2, f3, f4, f5⟩ := hf it (by simp)
    have W := Walks.range (prog := X.prog) (w := X.w) (I.ok.hd hc) it lo 1 n
    refine W.item i s _ _ hg st fun v h' tk hv st' kk => ?_
    obtain ⟨t, rfl⟩ := hv
    have I1 : Inv X pins σ H { s with heap := h', toks := tk } := I.turned (fun b o hb e => kk b o (by simpa using hb) e) f0 f1 f3 f4 f5
    refine ⟨_, rfl, go_of (s := { s with heap := h', toks := tk }) (n := "range_iterator") st' rfl rfl (by decide) ⟨.int (lo + i), H, I1, ⟨t, ?_⟩, ⟨rfl, rfl⟩, st', fun b hb => (hf b hb).1⟩⟩
    rw [Int.mul_one]
  done := by
    intro X hP hw hK hc i pins s σ H E I hf st hg
    subst hP hw hK
    obtain ⟨f0, f1, f2, f3, f4, f5⟩ := hf it (by simp)
    exact wpAny_pyNext_range_end (I.ok.hd hc) st (by have : n ≤ i := hg; omega) fun h' eb => ⟨rfl, I.turned (t' := s.toks) (fun b o hb e => eb b o hb e) f0 f1 f3 f4 f5⟩
  self := fun _ _ _ _ _ st h => wpAny_pyIter_rangeiter st h
end L2

namespace L2
open PySem PySem.Spec PyProof.Rows
section
variable {X : Cx} {tg : Expr}
/-- a range object just made, walked -/
theorem range_it {pins : List (Addr × Obj)} {σ : St} {H : Hp} {s : Shared} {R : It → Hp → Prop} {E : Value → Shared → Prop} {lo hi : Int} {t u v : Tok} {tk : Nat} (I : Inv X pins σ H s) (h1 : -(2 ^ 62) ≤ lo) (h2 : lo < 2 ^ 62) (h3 : -(2 ^ 62) ≤ hi) (h4 : hi < 2 ^ 62)
    (q : R (Itr lo (hi - lo).toNat) H) : wpAny (model X.prog X.w) X.A (pyIter (.ref s.heap.objs.size)) (PIE X pins σ tg R) E { s with heap := s.heap.push { cls := .type "range", data := .fields #[.int lo t, .int hi u, .int 1 v] }, toks := tk } := by
  refine wpAny_pyIter_range (IsRange.new ..) (small_one h1 h2 h3 h4) ?_
  have I1 : Inv X pins σ H { s with heap := s.heap.push { cls := .type "range", data := .fields #[.int lo t, .int hi u, .int 1 v] }, toks := tk } := I.kept fun b o e => Heap.get?_push_of_some _ e
  refine ⟨(s.heap.push { cls := .type "range", data := .fields #[.int lo t, .int hi u, .int 1 v] }).objs.size, [(s.heap.push { cls := .type "range", data := .fields #[.int lo t, .int hi u, .int 1 v] }).objs.size], _, _, H, rfl,
    I1.kept (t' := tk) fun b o e => Heap.get?_push_of_some _ e, turn_range _ lo (hi - lo).toNat, ?_, fun b hb => ?_, q⟩
  · have e1 : lo + ((0 : Nat) : Int) * 1 = lo := by simp
    have e2 : (((hi - lo).toNat : Nat) : Int) - ((0 : Nat) : Int) = Builtin.Range.rangeSize lo hi 1 := by rw [rangeSize_one]; split <;> omega
    show IsRangeIter _ _ (lo + ((0 : Nat) : Int) * 1) ((((hi - lo).toNat : Nat) : Int) - ((0 : Nat) : Int)) 1
    rw [e1, e2]
    exact Heap.get?_push_size _ rfl
  · have e : b = (s.heap.push { cls := .type "range", data := .fields #[.int lo t, .int hi u, .int 1 v] }).objs.size := by simpa using hb
    subst e
    exact I1.fpOk (Nat.le_refl _) (I1.hok.fresh (Nat.le_refl _))
def iRng1 (ta : TA) : TI := fun σ H R => ta σ H fun vs H1 => ∃ j : Int, vs = [.int j] ∧ -(2 ^ 62) ≤ j ∧ j < 2 ^ 62 ∧ R (Itr 0 j.toNat) H1
theorem pi_range1 {a : Expr} {ta : TA} {p pos : Pos} (hg : Gl X "range") (hm : X.mg "range" = none) (ha : PA X [a] ta) (hs : starEach [a] X.env = [(false, eval a X.env)] := by rfl) : PI X tg (.Call (.Name "range" p) [a] [] pos) (iRng1 ta) := by
  intro pins s σ H R I h
  refine Call_ (ld_blt I hg hm boot_range (PyProof.Rows.callWith_type1 (thn (ha pos pins s σ H _ I h) fun us s1 ⟨vs, H1, I1, r1, q1⟩ => ?_) hs rfl))
  obtain ⟨j, e, q1, q2, q⟩ := q1
  subst e
  cases r1 with
  | cons r rr =>
    cases rr
    obtain ⟨t, rfl⟩ := r
    exact call_range_1 (range_it I1 (by omega) (by omega) q1 q2 (by simpa using q))
/-! ### for -/
/-- W: the invariant by the turn and a measure; N: what the body is to reach -/
def tFor (wi : TI) (g : TG) (tb : TS) : TS := fun D σ H => wi σ H fun J H1 => ∃ W : Nat → Nat → St → Hp → Prop, (∃ m, W 0 m σ H1) ∧ ∀ i m σ H, W i m σ H →
  (J.stop i H ∧ D.nx σ H) ∨ (J.go i H ∧ ∃ N : St → Hp → Prop, (∀ σ' H', N σ' H' → ∃ m', m' < m ∧ W (i + 1) m' σ' H') ∧ ∀ x H', J.yld i H x H' → g x σ H' fun σ2 H2 => tb { D with nx := N, ct := N, bk := D.nx } σ2 H2)
/-- the records at fp as they stand -/
def pinsAt (fp : List Addr) (h : Heap) : List (Addr × Obj) := fp.filterMap fun b => (h.get? b).map fun o => (b, o)
theorem mem_pinsAt {fp : List Addr} {h : Heap} {b : Addr} {o : Obj} (hb : b ∈ fp) (e : h.get? b = some o) : (b, o) ∈ pinsAt fp h := List.mem_filterMap.mpr ⟨b, hb, by rw [e]; rfl⟩
theorem of_pinsAt {fp : List Addr} {h : Heap} {p : Addr × Obj} (hp : p ∈ pinsAt fp h) : p.1 ∈ fp ∧ h.get? p.1 = some p.2 := by
  obtain ⟨b, hb, e⟩ := List.mem_filterMap.mp hp
  cases q : h.get? b with
  | none => rw [q] at e; cases e
  | some o =>
    rw [q] at e
    have e' : (b, o) = p := Option.some.inj e
    subst e'
    exact ⟨hb, q⟩
theorem Inv.pinned {pins : List (Addr × Obj)} {σ : St} {H : Hp} {s : Shared} {fp : List Addr} (I : Inv X pins σ H s) (hf : ∀ b ∈ fp, FpOk X pins H b) (ho : ∀ b ∈ fp, ∃ o, s.heap.get? b = some o ∧ ∀ v, o.data ≠ .cell v) : Inv X (pins ++ pinsAt fp s.heap) σ H s :=
  I.pins_of fun p hp => (List.mem_append.mp hp).elim (fun z => I.pin p (List.mem_append_right _ z)) fun z => by
    obtain ⟨hb, e⟩ := of_pinsAt z
    obtain ⟨f0, f1, f2, _⟩ := hf p.1 hb
    obtain ⟨o, e', d⟩ := ho p.1 hb
    rw [e] at e'; cases e'
    exact ⟨e, f0, f1, f2, d⟩
theorem Inv.unpinned {pins pl : List (Addr × Obj)} {σ : St} {H : Hp} {s : Shared} (I : Inv X (pins ++ pl) σ H s) : Inv X pins σ H s := I.pins_of fun p hp => I.pin p (List.mem_append_right _ (List.mem_append_left _ hp))
theorem ps_for {iter : Expr} {body : List Stmt} {wi : TI} {g : TG} {tb : TS} {pos : Pos} (hp : PassesOwn (model X.prog X.w) X.A X.env X.xe) (hc : X.calm = true) (hi : PI X tg iter wi) (hg : PG X tg g) (hb : PSs X body tb)
    (hs : ∀ x, foldedSetIterable iter X.env x = pure x := by intro _; rfl) : PS X (.For tg iter body [] pos) (tFor wi g tb) := by
  intro pins s σ H D I h
  refine wpAny_For (thn (hi pins s σ H _ I h) fun v s1 h1 => thn h1 fun itv s2 h2 => ?_) hs
  obtain ⟨it, fp, tn, J, H2, e, I2, T, st2, f2, W, ⟨m0, w0⟩, turn⟩ := h2
  subst e
  -- what stays true of the iterator's objects through the loop
  have stat : ∀ {H' : Hp}, (∀ b ∈ fp, H' b = none) → ∀ b ∈ fp, FpOk X pins H' b := fun hn b hb => ⟨hn b hb, (f2 b hb).2⟩
  refine codeAny_forLoop_any (fun n s' => ∃ i σ' H', Inv X pins σ' H' s' ∧ tn i s'.heap ∧ (∀ b ∈ fp, H' b = none) ∧ W i n σ' H') ?_ m0 ⟨0, σ, H2, I2, st2, fun b hb => (f2 b hb).1, w0⟩
  rintro n s3 ⟨i, σ3, H3, I3, st3, fr3, w3⟩
  rcases turn i n σ3 H3 w3 with ⟨stop, qn⟩ | ⟨go, N, hN, step⟩
  · refine wpAny_passesOwn hp (thn (T.done X rfl rfl rfl hc i pins s3 σ3 H3 X.xe I3 (stat fr3) st3 stop) fun r s4 ⟨hr, I4⟩ => ?_)
    subst hr
    exact wpAny_execs_nil ⟨σ3, H3, I4, qn⟩
  · refine wpAny_passesOwn hp (thn (T.item X rfl rfl rfl hc i pins s3 σ3 H3 X.xe I3 (stat fr3) st3 go) fun r s4 ⟨u, hr, h4⟩ => ?_)
    subst hr
    refine wpAny_passesOwn hp (thn h4 fun _ s5 ⟨x, H5, I5, r5, y5, st5, fr5⟩ => ?_)
    have I5' := I5.pinned (stat fr5) (T.obj _ _ st5)
    refine wpAny_passesOwn hp (thn (hg _ s5 σ3 H5 x u _ I5' r5 (step x H5 y5)) fun _ s6 ⟨σ6, H6, I6, q6⟩ => ?_)
    refine wpAny_passesOwn hp (thn (hb _ s6 σ6 H6 _ I6 q6) fun f s7 q7 => ?_)
    have again : ∀ {σ7 : St} {H7 : Hp}, Inv X (pins ++ pinsAt fp s5.heap) σ7 H7 s7 → N σ7 H7 → ∃ m, m < n ∧ ∃ i σ' H', Inv X pins σ' H' s7 ∧ tn i s7.heap ∧ (∀ b ∈ fp, H' b = none) ∧ W i m σ' H' := fun {σ7 H7} I7 n7 => by
      obtain ⟨m', hm, w7⟩ := hN σ7 H7 n7
      refine ⟨m', hm, i + 1, σ7, H7, I7.unpinned, T.keep _ _ _ st5 fun b hb o e => (I7.pin (b, o) (List.mem_append_right _ (List.mem_append_right _ (mem_pinsAt hb e)))).1, fun b hb => ?_, w7⟩
      obtain ⟨o, e, d⟩ := T.obj _ _ st5 b hb
      exact (I7.pin (b, o) (List.mem_append_right _ (List.mem_append_right _ (mem_pinsAt hb e)))).2.1
    cases f with
    | next => obtain ⟨σ7, H7, I7, n7⟩ := q7; exact again I7 n7
    | cont => obtain ⟨σ7, H7, I7, n7⟩ := q7; exact again I7 n7
    | brk => obtain ⟨σ7, H7, I7, q7⟩ := q7; exact ⟨σ7, H7, I7.unpinned, q7⟩
    | ret v => obtain ⟨x7, σ7, H7, I7, r7, q7⟩ := q7; exact ⟨x7, σ7, H7, I7.unpinned, r7, q7⟩
end

/-! ### the forms one uses -/
end L2

namespace L2
open PySem PySem.Spec PyProof.Rows

abbrev R2 := V → V → Hp → VK → Prop
/-- a two-place operation on values: f is binaryOp op, inplaceOp op or compareOp op -/
def OpR (X : Cx) (f : Value → Value → Sem Value) (r : R2) : Prop :=
  ∀ (pins : List (Addr × Obj)) (s : Shared) (σ : St) (H : Hp) (x y : V) (v u : Value) (Q : VK), Inv X pins σ H s → RelV x v → RelV y u → r x y H Q →
    wpAny (model X.prog X.w) X.A (f v u) (EP X pins σ Q) X.xe s
/-- a call of a value that is known (a builtin, a type) with values -/
def CallR (X : Cx) (f : Value) (r : List V → Hp → VK → Prop) : Prop :=
  ∀ (pins : List (Addr × Obj)) (s : Shared) (σ : St) (H : Hp) (xs : List V) (us : List Value) (Q : VK), Inv X pins σ H s → Vals xs us → r xs H Q →
    wpAny (model X.prog X.w) X.A (call f us) (EP X pins σ Q) X.xe s
def tOp (r : R2) (ta tb : TE) : TE := fun σ H Q => ta σ H fun x H1 => tb σ H1 fun y H2 => r x y H2 Q
/-- ints in, under C, and a value out -/
def rI (C : Int → Int → Prop) (g : Int → Int → V) : R2 := fun x y H Q => ∃ i j, x = .int i ∧ y = .int j ∧ C i j ∧ Q (g i j) H
def rI0 (g : Int → Int → V) : R2 := fun x y H Q => ∃ i j, x = .int i ∧ y = .int j ∧ Q (g i j) H
section
variable {X : Cx} {a b c : Expr} {ta tb tc : TE} {pos : Pos}

theorem binT (ha : PE X a ta) (hb : PE X b tb) {pins : List (Addr × Obj)} {s : Shared} {σ : St} {H : Hp} {R : V → V → Hp → Prop} (I : Inv X pins σ H s)
    (h : ta σ H fun x H1 => tb σ H1 fun y H2 => R x y H2) {Q : Value → Shared → Prop} {f : Value → Value → Sem Value}
    (hf : ∀ v u s2 x y H2, Inv X pins σ H2 s2 → RelV x v → RelV y u → R x y H2 → wpAny (model X.prog X.w) X.A (f v u) Q X.xe s2) :
    wpAny (model X.prog X.w) X.A (eval a X.env) (fun v s₁ => wpAny (model X.prog X.w) X.A (eval b X.env) (fun u s₂ => wpAny (model X.prog X.w) X.A (f v u) Q X.xe s₂) X.xe s₁) X.xe s := by
  refine thn (ha pins s σ H _ I h) fun v s1 ⟨x, H1, I1, r1, q1⟩ => ?_
  refine thn (hb pins s1 σ H1 _ I1 q1) fun u s2 ⟨y, H2, I2, r2, q2⟩ => ?_
  exact hf v u s2 x y H2 I2 r1 r2 q2

theorem pe_op {op : Operator} {r : R2} (ho : OpR X (binaryOp op) r) (ha : PE X a ta) (hb : PE X b tb) : PE X (.BinOp a op b pos) (tOp r ta tb) := by
  intro pins s σ H Q I h
  exact wpAny_BinOp (binT ha hb I h fun v u s2 x y H2 I2 rx ry q => ho pins s2 σ H2 x y v u Q I2 rx ry q)
/-! ### ints -/
theorem opI {f : Value → Value → Sem Value} {C : Int → Int → Prop} {g : Int → Int → Int}
    (rule : ∀ (i j : Int) (t u : Tok) (s : Shared) (Q : Value → Shared → Prop) (E : Value → Shared → Prop), C i j → Q (.int (g i j) s.toks) { s with toks := s.toks + 1 } → wpAny (model X.prog X.w) X.A (f (.int i t) (.int j u)) Q E s) :
    OpR X f (rI C fun i j => .int (g i j)) := by
  intro pins s σ H x y v u Q I rx ry h
  obtain ⟨i, j, rfl, rfl, hc, q⟩ := h
  obtain ⟨t, rfl⟩ := rx
  obtain ⟨t', rfl⟩ := ry
  exact rule i j t t' s _ _ hc ⟨.int (g i j), H, I.tok _, ⟨_, rfl⟩, q⟩
theorem opI0 {f : Value → Value → Sem Value} {g : Int → Int → Int}
    (rule : ∀ (i j : Int) (t u : Tok) (s : Shared) (Q : Value → Shared → Prop) (E : Value → Shared → Prop), Q (.int (g i j) s.toks) { s with toks := s.toks + 1 } → wpAny (model X.prog X.w) X.A (f (.int i t) (.int j u)) Q E s) :
    OpR X f (rI0 fun i j => .int (g i j)) := by
  intro pins s σ H x y v u Q I rx ry h
  obtain ⟨i, j, rfl, rfl, q⟩ := h
  obtain ⟨t, rfl⟩ := rx
  obtain ⟨t', rfl⟩ := ry
  exact rule i j t t' s _ _ ⟨.int (g i j), H, I.tok _, ⟨_, rfl⟩, q⟩
theorem opB0 {f : Value → Value → Sem Value} {g : Int → Int → Bool}
    (rule : ∀ (i j : Int) (t u : Tok) (s : Shared) (Q : Value → Shared → Prop) (E : Value → Shared → Prop), Q (.bool (g i j)) s → wpAny (model X.prog X.w) X.A (f (.int i t) (.int j u)) Q E s) :
    OpR X f (rI0 fun i j => .bl (g i j)) := by
  intro pins s σ H x y v u Q I rx ry h
  obtain ⟨i, j, rfl, rfl, q⟩ := h
  obtain ⟨t, rfl⟩ := rx
  obtain ⟨t', rfl⟩ := ry
  exact rule i j t t' s _ _ ⟨.bl (g i j), H, I, rfl, q⟩

def CPow (i j : Int) : Prop := 0 ≤ j ∧ j ≤ 1000000 ∧ i.natAbs < 2 ^ 64
def CMul (i j : Int) : Prop := (-(2 ^ 64) < i ∧ i < 2 ^ 64) ∨ (-(2 ^ 64) < j ∧ j < 2 ^ 64)
theorem CMul.ok {i j : Int} (h : CMul i j) : IntMulOk i j := by
  rcases h with ⟨h1, h2⟩ | ⟨h1, h2⟩
  · exact .of_left (intBits_le_64 h1 h2)
  · exact .of_right (intBits_le_64 h1 h2)
theorem op_add : OpR X (binaryOp .Add) (rI0 fun i j => .int (i + j)) := opI0 fun _ _ _ _ _ _ _ q => add_int q
theorem op_sub : OpR X (binaryOp .Sub) (rI0 fun i j => .int (i - j)) := opI0 fun _ _ _ _ _ _ _ q => sub_int q
theorem op_modN : OpR X (binaryOp .Mod) (rI (fun _ j => j ≠ 0) fun i j => .int (i.fmod j)) := opI fun _ _ _ _ _ _ _ hc q => mod_int' hc q
theorem op_pow : OpR X (binaryOp .Pow) (rI CPow fun i j => .int (i ^ j.toNat)) := opI fun _ _ _ _ _ _ _ hc q => pow_int_small hc.1 hc.2.1 hc.2.2 q
/-! ### bools among ints: n += (a < b) -/
end

/-! ### comparisons -/
section
variable {X : Cx} {a b c : Expr} {ta tb tc : TE} {pos : Pos}
theorem op_lt : OpR X (compareOp .Lt) (rI0 fun i j => .bl (decide (i < j))) := opB0 fun _ _ _ _ _ _ _ q => lt_int q
theorem op_le : OpR X (compareOp .LtE) (rI0 fun i j => .bl (decide (i ≤ j))) := opB0 fun _ _ _ _ _ _ _ q => le_int q
theorem op_gt : OpR X (compareOp .Gt) (rI0 fun i j => .bl (decide (j < i))) := opB0 fun _ _ _ _ _ _ _ q => gt_int q
theorem op_ge : OpR X (compareOp .GtE) (rI0 fun i j => .bl (decide (j ≤ i))) := opB0 fun _ _ _ _ _ _ _ q => ge_int q
/-- two rules for one operation: by cases -/
theorem OpR.or {f : Value → Value → Sem Value} {r r' : R2} (h : OpR X f r) (h' : OpR X f r') : OpR X f (fun x y H Q => r x y H Q ∨ r' x y H Q) := by
  intro pins s σ H x y v u Q I rx ry q
  rcases q with q | q
  · exact h pins s σ H x y v u Q I rx ry q
  · exact h' pins s σ H x y v u Q I rx ry q

theorem nomark (b : Expr) {op : CmpOp} (h : op ≠ .In := by decide) (h2 : op ≠ .NotIn := by decide) : behindInMarks op b = false := by
  have e1 : (op == CmpOp.In) = false := by cases op <;> first | rfl | exact absurd rfl h
  have e2 : (op == CmpOp.NotIn) = false := by cases op <;> first | rfl | exact absurd rfl h2
  cases b <;> simp [behindInMarks, e1, e2]
/-- a comparison as a value; hm: nomark b, or (for in, not in) by with_unfolding_all rfl -/
theorem pe_cmpR {op : CmpOp} {r : R2} (ho : OpR X (compareOp op) r) (ha : PE X a ta) (hb : PE X b tb) (hm : behindInMarks op b = false) : PE X (.Compare a [op] [b] pos) (tOp r ta tb) := by
  intro pins s σ H Q I h
  exact wpAny_Compare1 (binT ha hb I h fun v u s2 x y H2 I2 rx ry q => ho pins s2 σ H2 x y v u Q I2 rx ry q) hm
/-- a reading of a value as a test -/
def tTest (t : TE) : TT := fun σ H Q => t σ H fun x H' => ∃ k, x = .bl k ∧ Q k H'
theorem pt_cmpR {op : CmpOp} {r : R2} (ho : OpR X (compareOp op) r) (ha : PE X a ta) (hb : PE X b tb) (hm : behindInMarks op b = false) : PT X (.Compare a [op] [b] pos) (tTest (tOp r ta tb)) := by
  intro pins s σ H Q I h
  refine wpAny_isTrue_Compare1 (thn (ha pins s σ H _ I h) fun v s1 ⟨x, H1, I1, r1, q1⟩ => thn (hb pins s1 σ H1 _ I1 q1) fun u s2 ⟨y, H2, I2, r2, q2⟩ =>
    thn (ho pins s2 σ H2 x y v u _ I2 r1 r2 q2) fun c s3 ⟨z, H3, I3, r3, k, e, q3⟩ => ?_) hm
  subst e
  cases r3
  exact wpAny_truthy_bool ⟨H3, I3, q3⟩
/-! ### truth -/
theorem line63 : (sizeLine : Nat) < 2 ^ 63 := by rw [sizeLine_eq]; decide
/-! ### strs and bytes -/
theorem op_add_str : OpR X (binaryOp .Add) (fun x y H Q => ∃ i j, x = .str i ∧ y = .str j ∧ i.length + j.length ≤ sizeLine ∧ Q (.str (i ++ j)) H) := by
  intro pins s σ H x y v u Q I rx ry h
  obtain ⟨i, j, rfl, rfl, hz, q⟩ := h
  obtain ⟨t, rfl⟩ := rx
  obtain ⟨t', rfl⟩ := ry
  exact add_str (fun t' tk => ⟨.str (i ++ j), H, I.tok _, ⟨_, rfl⟩, q⟩) hz
/-! ### scalar builtins, by CallR -/
theorem vals1 {x : V} {us : List Value} (r : Vals [x] us) : ∃ u, us = [u] ∧ RelV x u := by
  cases r with
  | cons r1 r2 => cases r2; exact ⟨_, rfl, r1⟩
theorem vals2 {x y : V} {us : List Value} (r : Vals [x, y] us) : ∃ u w', us = [u, w'] ∧ RelV x u ∧ RelV y w' := by
  cases r with
  | cons r1 r2 =>
    cases r2 with
    | cons r3 r4 => cases r4; exact ⟨_, _, rfl, r1, r3⟩
theorem call_abs : CallR X (.builtin "abs") (fun xs H Q => ∃ i, xs = [.int i] ∧ Q (.int (if i < 0 then -i else i)) H) := by
  intro pins s σ H xs us Q I r h
  obtain ⟨i, rfl, q⟩ := h
  obtain ⟨u, rfl, t, rfl⟩ := vals1 r
  exact call_abs_int fun u tk => ⟨.int (if i < 0 then -i else i), H, I.tok _, ⟨_, rfl⟩, q⟩
theorem call_int1 : CallR X (.type "int") (fun xs H Q => (∃ i, xs = [.int i] ∧ Q (.int i) H) ∨ ∃ k, xs = [.bl k] ∧ Q (.int (if k then 1 else 0)) H) := by
  intro pins s σ H xs us Q I r h
  rcases h with ⟨i, rfl, q⟩ | ⟨k, rfl, q⟩
  · obtain ⟨u, rfl, t, rfl⟩ := vals1 r
    exact call_int_int ⟨.int i, H, I, ⟨_, rfl⟩, q⟩
  · obtain ⟨u, rfl, r1⟩ := vals1 r
    cases r1
    exact call_int_bool ⟨.int (if k then 1 else 0), H, I.tok _, ⟨_, rfl⟩, q⟩
end
end L2

namespace L2
open PySem PySem.Spec PyProof.Rows

/-! ### an instance, its attributes a map -/
structure ObjM (h : Heap) (x dx C : Addr) (mA : Str → Option Value) : Prop where
  obj : h.get? x = some (PySem.W.instObj C dx)
  ns : h.Ns1 dx mA
  ne : dx ≠ x

section
variable {prog : Program} {w : World} {A : Around} {E : Value → Shared → Prop} {s : Shared} {K : PySem.W.Frag} {x dx C f : Addr} {mA : Str → Option Value} {name : Str} {v : Value}

end

/-! ### the attributes as a list of pairs -/
theorem RelO.none_of {o : Option Value} (r : RelO none o) : o = none := by
  cases o with
  | none => rfl
  | some u => exact (show False from r).elim
section
variable {P : Program} {w : World} {H H' : Hp} {h h' : Heap} {a C dx : Addr} {fs fs' : List (Str × V)}
end

/-! ### what of the text a class must have -/
structure Cls (K : PySem.W.Frag) (C : Addr) : Prop where
  pg : PySem.W.plainGet K C Str.empty = true
  hd : PySem.W.hasDictIn K C = true
  po : PySem.W.plainOver K C = true
  sa : PySem.W.findIn K (.ref C) "__setattr__" = some (some (.builtin "object.__setattr__"))
theorem Cls.get {K : PySem.W.Frag} {C : Addr} (c : Cls K C) (f : Str) : PySem.W.plainGet K C f = true := c.pg
/-- a constant of the class -/
structure Con (K : PySem.W.Frag) (C : Addr) (f : Str) (v : V) (u : Value) : Prop where
  at_ : PySem.W.findIn K (.ref C) f = some (some u)
  rel : RelV v u
  get : PySem.W.specialIn K u "__get__" = some none
  cp : PySem.W.copiedNames.contains f = false
/-- a method: a plain def of the class or of one above it -/
structure Meth (K : PySem.W.Frag) (C : Addr) (m : Str) (f : Addr) : Prop where
  at_ : PySem.W.findIn K (.ref C) m = some (some (.ref f))
  fn : PySem.W.isFn K (.ref f) = true
  kp : PySem.W.keepIn K (.ref f) = true

section
variable {X : Cx} {pins : List (Addr × Obj)} {σ : St} {H : Hp} {s : Shared} {a C dx : Addr} {fs : List (Str × V)} {f : Str} {v : V} {A : Around} {E : Value → Shared → Prop}

/-- a new instance, tracked, without attributes -/
theorem Inv.made (I : Inv X pins σ H s) : Inv X pins σ (upd (upd H s.heap.objs.size (.own (s.heap.objs.size + 1))) (s.heap.objs.size + 1) (.ins C s.heap.objs.size []))
    { s with heap := (s.heap.push PySem.W.emptyDict).push (PySem.W.instObj C s.heap.objs.size) } := by
  have e1 : (s.heap.push PySem.W.emptyDict).get? s.heap.objs.size = some PySem.W.emptyDict := Heap.get?_push_size s.heap rfl
  have e2 : ((s.heap.push PySem.W.emptyDict).push (PySem.W.instObj C s.heap.objs.size)).get? (s.heap.objs.size + 1) = some (PySem.W.instObj C s.heap.objs.size) := by
    have := Heap.get?_push_size (s.heap.push PySem.W.emptyDict) (o := PySem.W.instObj C s.heap.objs.size) rfl
    rwa [Heap.size_push] at this
  have e3 : (s.heap.push PySem.W.emptyDict).Ns s.heap.objs.size (fun _ => none) := ⟨PySem.W.emptyDict, #[], _, e1, rfl, (fun e he => absurd he (by simp)), fun _ => rfl⟩
  have I1 := I.laid (a := s.heap.objs.size) (o := .own (s.heap.objs.size + 1)) (h' := s.heap.push PySem.W.emptyDict) (t' := s.toks) (fun b u q => Heap.get?_push_of_some _ q) (Nat.le_refl _) ⟨_, e1⟩
  refine I1.laid (a := s.heap.objs.size + 1) (o := .ins C s.heap.objs.size []) (t' := s.toks) (fun b u q => Heap.get?_push_of_some _ q) (Nat.le_of_eq (Heap.size_push _ _)) ?_
  have ne : s.heap.objs.size ≠ s.heap.objs.size + 1 := Nat.ne_of_lt (Nat.lt_succ_self _)
  refine ⟨by rw [upd_ne ne, upd_same], Nat.zero_le _, ne, e2, fun _ => none, (Heap.Ns1.of_empty e3).at fun o q => Heap.get?_push_of_some _ q, fun _ => True.intro, fun y hy => absurd rfl hy⟩

end

/-! ### readings and rules -/
section
variable {X : Cx} {o e value : Expr} {f : Str} {pos pos' tpos : Pos} {ta tv : TE}
end

/-! ### isinstance -/
section
variable {X : Cx} {pins : List (Addr × Obj)} {σ : St} {H : Hp} {s : Shared} {A : Around} {E : Value → Shared → Prop} {Q : Value → Shared → Prop} {c : Value} {b : Bool}
/-- the type of a value, as the fragment's deciders take it; for an instance its class -/
inductive TyOf (K : PySem.W.Frag) (H : Hp) : V → Value → Prop where
  | non : TyOf K H .non (.type "NoneType")
  | bl (x : Bool) : TyOf K H (.bl x) (.type "bool")
  | int (i : Int) : TyOf K H (.int i) (.type "int")
  | str (x : Str) : TyOf K H (.str x) (.type "str")
  | flt (x : UInt64) : TyOf K H (.flt x) (.type "float")
  | lst {a : Addr} {xs : List V} (e : H a = some (.lst xs)) : TyOf K H (.ref a) (.type "list")
  | frz {a : Addr} {o : Obj} {xs : List V} (e : H a = some (.frz o (.lst xs))) : TyOf K H (.ref a) (.type "list")
  | tup {a : Addr} {xs : List V} (e : H a = some (.tup xs)) : TyOf K H (.ref a) (.type "tuple")
  | dK {a : Addr} {kvs : List (Key × V)} (e : H a = some (.dK kvs)) : TyOf K H (.ref a) (.type "dict")
  | dT {a : Addr} {kvs : List (List Key × V)} (e : H a = some (.dT kvs)) : TyOf K H (.ref a) (.type "dict")
  | ins {a C dx : Addr} {fs : List (Str × V)} (e : H a = some (.ins C dx fs)) (cl : Cls K C) (ha : PySem.W.findIn K (.ref C) "__class__" = some (some (.builtin "object.__class__")))
      (hn : PySem.W.specialIn K (.builtin "object.__class__") "__get__" = some (some (.builtin "getset_descriptor.__get__"))) (htk : PySem.W.takesIn K (.builtin "object.__class__") = some true)
      (hm : PySem.W.mroIn K C (.type "object") = some true) : TyOf K H (.ref a) (.ref C)
end
end L2

namespace L2
open PySem PySem.Spec PyProof.Rows

/-! ### room -/
structure Room (k : Nat) (A : Around) : Prop where
  hd : A.handled = none
  dp : A.depth + 3 * k + 5 < recursionLimit
  un : A.units + 16 * k + 200 < cLine
theorem Room.mono {j k : Nat} {A : Around} (r : Room k A) (h : j ≤ k) : Room j A := ⟨r.hd, by have := r.dp; omega, by have := r.un; omega⟩
theorem Room.deeper {k : Nat} {A : Around} (r : Room (k + 1) A) (env : Env) : Room k (A.deeper env) :=
  ⟨r.hd, by have := r.dp; show A.depth + 1 + 3 * k + 5 < _; omega, by have := r.un; show A.units + 3 + 16 * k + 200 < _; omega⟩
theorem Room.in1 {k : Nat} {A : Around} (r : Room (k + 1) A) : Room k A.in1 :=
  ⟨r.hd, by have := r.dp; show A.depth + 3 * k + 5 < _; omega, by have := r.un; show A.units + 1 + 16 * k + 200 < _; omega⟩
theorem make_depth {A : Around} {C : Addr} {us : List Value} {kw : List (Str × Value)} : (A.under (.builtin "type.__call__" ⟨.ref C :: us, kw⟩)).depth = A.depth + 1 := by
  first | rfl | simp [Around.under, Code.weight, Code.isCreation, Code.isGuard, Code.isCaller, Code.frames, Code.isFrame, guardIds]
theorem make_units {A : Around} {C : Addr} {us : List Value} {kw : List (Str × Value)} : (A.under (.builtin "type.__call__" ⟨.ref C :: us, kw⟩)).units = A.units + 1 := by
  first | rfl | simp [Around.under, Code.cUnits, Code.frames, Code.isFrame]
theorem Room.make {k : Nat} {A : Around} (r : Room (k + 1) A) (C : Addr) (us : List Value) (kw : List (Str × Value)) : Room k (A.under (.builtin "type.__call__" ⟨.ref C :: us, kw⟩)) :=
  ⟨r.hd, by have := r.dp; rw [make_depth]; omega, by have := r.un; rw [make_units]; omega⟩
theorem Room.depth {k : Nat} {A : Around} (r : Room k A) : A.depth < recursionLimit := by have := r.dp; omega
theorem Room.units {k : Nat} {A : Around} (r : Room k A) : A.units + 64 < cLine := by have := r.un; omega
/-! ### argument lists and displays -/
def tNil : TA := fun _ H Q => Q [] H
def tCons (ta : TE) (tr : TA) : TA := fun σ H Q => ta σ H fun x H1 => tr σ H1 fun xs H2 => Q (x :: xs) H2
section
variable {X : Cx} {e : Expr} {es : List Expr} {te : TE} {t : TA} {pos : Pos}
theorem pa_nil : PA X [] tNil := fun _ _ _ _ H Q I h => Calls.spliced_nil ⟨[], H, I, .nil, h⟩
theorem pa_cons (ha : PE X e te) (hr : PA X es t) (hs : starEach (e :: es) X.env = (false, eval e X.env) :: starEach es X.env := by rfl) : PA X (e :: es) (tCons te t) := by
  intro pos pins s σ H Q I h
  rw [hs]
  show wpAny _ _ (spliced ((false, eval e X.env) :: backTo pos (starEach es X.env))) _ _ s
  refine Calls.spliced_cons (thn (ha pins s σ H _ I h) fun u s1 ⟨x, H1, I1, r1, q1⟩ => ?_)
  exact thn (hr pos pins s1 σ H1 _ I1 q1) fun us s2 ⟨xs, H2, I2, r2, q2⟩ => ⟨x :: xs, H2, I2, .cons r1 r2, q2⟩

/-- a tuple, a list of written items -/
def tTup (t : TA) : TE := fun σ H Q => t σ H fun xs H1 => xs.length ≤ sizeLine ∧ ∀ p, H1 p = none → Q (.ref p) (upd H1 p (.tup xs))
def tLst (t : TA) : TE := fun σ H Q => t σ H fun xs H1 => xs.length ≤ sizeLine ∧ ∀ p, H1 p = none → Q (.ref p) (upd H1 p (.lst xs))
theorem pe_tup {x1} (h : PA X es t) : PE X (.Tuple es x1 pos) (tTup t) := by
  intro pins s σ H Q I hq
  refine wpAny_Tuple_spliced (thn (h pos pins s σ H _ I hq) fun us s1 ⟨xs, H1, I1, r, z, q⟩ => ⟨by rw [← r.length]; exact z, ?_⟩)
  have hf : H1 s1.heap.objs.size = none := I1.hok.fresh (Nat.le_refl _)
  refine ⟨.ref s1.heap.objs.size, upd H1 s1.heap.objs.size (.tup xs), I1.laid (t' := s1.toks) (fun b u e => Heap.get?_push_of_some _ e) (Nat.le_refl _) ?_, rfl, q _ hf⟩
  exact ⟨z, us, r, ⟨_, Heap.get?_push_size _ rfl, rfl, _, rfl⟩⟩
theorem pe_lst (h : PA X es t) : PE X (.List es pos) (tLst t) := by
  intro pins s σ H Q I hq
  refine wpAny_List_spliced (thn (h pos pins s σ H _ I hq) fun us s1 ⟨xs, H1, I1, r, z, q⟩ => ⟨by rw [← r.length]; exact z, ?_⟩)
  have hf : H1 s1.heap.objs.size = none := I1.hok.fresh (Nat.le_refl _)
  refine ⟨.ref s1.heap.objs.size, upd H1 s1.heap.objs.size (.lst xs), I1.laid (t' := s1.toks) (fun b u e => Heap.get?_push_of_some _ e) (Nat.le_refl _) ?_, rfl, q _ hf⟩
  exact ⟨z, us, 0, r, Heap.get?_push_size _ rfl⟩
end

/-! ### what a def promises -/
/-- a def's promise: the bound arguments in the parameters' order, the heap, the wanted end, the wanted exception -/
abbrev Sp := List V → Hp → VK → XK → Prop
/-- how an exception lies behind a call (file 08 gives it): the callers' frames, abstract heap and state ahead of the call, the wish, the exception, the state -/
abbrev CXT := List Env → Hp → Shared → XK → Value → Shared → Prop

/-- the state at a call -/
structure Env0 (P : Program) (w : World) (K : PySem.W.Frag) (mg : Str → Option Value) (base : Heap) (A : Around) (outer : List Env) (s : Shared) (H : Hp) : Prop where
  frames : A.frames = some outer
  mod : Mod K mg base
  bs : ∀ b o, base.get? b = some o → s.heap.get? b = some o ∧ H b = none
  bsz : base.objs.size ≤ s.heap.objs.size
  funs : s.heap.FunFrames base outer
  frf : ∀ b ∈ frs outer, H b = none
  hok : HOk P w H s.heap
  bare : AllBare s.gens
/-- a call's end -/
def CE (outer : List Env) (P : Program) (w : World) (H : Hp) (s : Shared) (Q : VK) (u : Value) (s' : Shared) : Prop :=
  ∃ v H', s'.os = s.os ∧ AllBare s'.gens ∧ Un (frs outer) [] H H' s.heap s'.heap ∧ HOk P w H' s'.heap ∧ RelV v u ∧ Q v H'
def CR (CX : CXT) (outer : List Env) (P : Program) (w : World) (H : Hp) (s : Shared) (Q : VK) (E : XK) (r : Result) (s' : Shared) : Prop :=
  match r with
  | .ok (.ret u) => CE outer P w H s Q u s'
  | .ok _ => False
  | .error e => CX outer H s E e s'
structure FnOk (P : Program) (w : World) (K : PySem.W.Frag) (mg : Str → Option Value) (base : Heap) (CX : CXT) (k : Nat) (f : Addr) (fd : FuncData) (ps : List Str) (sp : Sp) : Prop where
  len : ∀ vs H Q E, sp vs H Q E → vs.length = ps.length
  run : ∀ (A : Around) (outer : List Env) (s : Shared) (H : Hp) (args : Args) (us : List Value) (vs : List V) (Q : VK) (E : XK), Room k A → Env0 P w K mg base A outer s H → BindsTo s fd args (ps.zip us) → Vals vs us → sp vs H Q E →
    codeAny (model P w) A (.call (.ref f) args) (CR CX outer P w H s Q E) s
theorem FnOk.mono {P : Program} {w : World} {K : PySem.W.Frag} {mg : Str → Option Value} {base : Heap} {CX : CXT} {j k : Nat} {f : Addr} {fd : FuncData} {ps : List Str} {sp : Sp} (F : FnOk P w K mg base CX j f fd ps sp) (h : j ≤ k) :
    FnOk P w K mg base CX k f fd ps sp := ⟨F.len, fun A outer s H args us vs Q E hr => F.run A outer s H args us vs Q E (hr.mono h)⟩
/-- a weaker promise -/
theorem FnOk.imp {P : Program} {w : World} {K : PySem.W.Frag} {mg : Str → Option Value} {base : Heap} {CX : CXT} {k : Nat} {f : Addr} {fd : FuncData} {ps : List Str} {sp sp' : Sp} (F : FnOk P w K mg base CX k f fd ps sp)
    (h : ∀ vs H Q E, sp' vs H Q E → sp vs H Q E) : FnOk P w K mg base CX k f fd ps sp' :=
  ⟨fun vs H Q E q => F.len vs H Q E (h _ _ _ _ q), fun A outer s H args us vs Q E hr he hb hv hs => F.run A outer s H args us vs Q E hr he hb hv (h _ _ _ _ hs)⟩

theorem Env0.make {P : Program} {w : World} {K : PySem.W.Frag} {mg : Str → Option Value} {base : Heap} {A : Around} {outer : List Env} {s : Shared} {H : Hp} (e : Env0 P w K mg base A outer s H) (C : Addr) (us : List Value) (kw : List (Str × Value)) :
    Env0 P w K mg base (A.under (.builtin "type.__call__" ⟨.ref C :: us, kw⟩)) outer s H := ⟨by first | exact e.frames | (simpa [Around.under, Code.envs, Code.isFrame, pushEnvs] using e.frames), e.mod, e.bs, e.bsz, e.funs, e.frf, e.hok, e.bare⟩
theorem Env0.in1 {P : Program} {w : World} {K : PySem.W.Frag} {mg : Str → Option Value} {base : Heap} {A : Around} {outer : List Env} {s : Shared} {H : Hp} (e : Env0 P w K mg base A outer s H) :
    Env0 P w K mg base A.in1 outer s H := ⟨e.frames, e.mod, e.bs, e.bsz, e.funs, e.frf, e.hok, e.bare⟩

section
variable {X : Cx} {pins : List (Addr × Obj)} {σ : St} {H : Hp} {s s' : Shared}
/-- from a body: what a callee wants -/
theorem Inv.env0 (I : Inv X pins σ H s) : Env0 X.prog X.w X.K X.mg X.base X.A X.stack s H :=
  ⟨I.ok.frames, I.ok.mod, I.bs, Nat.le_trans I.ok.bsz I.sz, I.stack, I.stkFree, I.hok, I.bare⟩
/-- behind a call -/
theorem Inv.after {Q : VK} {u : Value} (I : Inv X pins σ H s) (h : CE X.stack X.prog X.w H s Q u s') : EP X pins σ Q u s' := by
  obtain ⟨v, H', os, bare, un, hok, r, q⟩ := h
  obtain ⟨hh, g, d, t, os'⟩ := s'
  obtain rfl : os' = s.os := os
  exact ⟨v, H', I.call (h' := hh) (g' := g) (d' := d) (t' := t) (ch := []) un hok bare (fun b z => absurd z (by simp)), r, q⟩
end

/-! ### calls -/
/-- f(..): the written arguments, then the defaults dvs; E: what is wanted of an exception -/
def tCall (sp : Sp) (dvs : List V) (E : XK) (t : TA) : TE := fun σ H Q => t σ H fun vs H1 => sp (vs ++ dvs) H1 Q E
/-- how the parameters are bound: us the positional arguments, kw the keywords' values by name, ds the defaults that fill up -/
def Binds (K : PySem.W.Frag) (fd : FuncData) (ps : List Str) (ds : List Value) : Prop :=
  ∀ (s : Shared) (us : List Value), K.In s.heap → (us ++ ds).length = ps.length → BindsTo s fd ⟨us, []⟩ (ps.zip (us ++ ds))
/-- every parameter is given -/
theorem Binds.all {K : PySem.W.Frag} {fd : FuncData} {ps : List Str} (h : ∀ us : List Value, us.length = ps.length → bindArgs fd ⟨us, []⟩ = pure (ps.zip us)) : Binds K fd ps [] := fun s us _ hl => by
  rw [List.append_nil] at hl ⊢
  exact .of_eq (h us hl)

/-- an exception of a callee reaches what this body wants of exceptions -/
def Passes (CX : CXT) (X : Cx) (E : XK) : Prop := ∀ (pins : List (Addr × Obj)) (σ : St) (H : Hp) (s : Shared) (e : Value) (s' : Shared), Inv X pins σ H s → CX X.stack H s E e s' → X.xe e s'

section
variable {X : Cx} {CX : CXT} {k : Nat} {f C : Addr} {fd : FuncData} {ps : List Str} {sp : Sp} {dvs : List V} {ds : List Value} {E : XK} {x m : Str} {p pos apos : Pos} {e o : Expr} {es : List Expr} {ta : TE} {t : TA}

/-- the callee runs -/
theorem run_fn {pins : List (Addr × Obj)} {σ : St} {H : Hp} {s : Shared} {Q : VK} {us : List Value} {vs : List V} (F : FnOk X.prog X.w X.K X.mg X.base CX k f fd ps sp) (hr : Room k X.A) (hb : Binds X.K fd ps ds) (hd : Vals dvs ds) (hx : Passes CX X E)
    (I : Inv X pins σ H s) (r : Vals vs us) (h : sp (vs ++ dvs) H Q E) : wpAny (model X.prog X.w) X.A (call (.ref f) us) (EP X pins σ Q) X.xe s := by
  have r2 : Vals (vs ++ dvs) (us ++ ds) := r.append hd
  have hl : (us ++ ds).length = ps.length := by rw [← r2.length]; exact F.len _ _ _ _ h
  refine wpAny_call (codeAny_mono (F.run X.A X.stack s H ⟨us, []⟩ (us ++ ds) (vs ++ dvs) Q E hr I.env0 (hb s us I.kIn hl) r2 h) fun r s' hq => ?_)
  cases r with
  | error e => exact hx pins σ H s e s' I hq
  | ok fl =>
    cases fl with
    | ret u => exact I.after hq
    | next => exact False.elim hq
    | brk => exact False.elim hq
    | cont => exact False.elim hq

theorem pe_call (F : FnOk X.prog X.w X.K X.mg X.base CX k f fd ps sp) (hr : Room k X.A) (hg : Gl X x) (hm : X.mg x = some (.ref f)) (hk : PySem.W.keepIn X.K (.ref f) = true) (hb : Binds X.K fd ps ds) (hd : Vals dvs ds) (hx : Passes CX X E)
    (ha : PA X (e :: es) t) (hdb : (x == ("__debug__" : Str)) = false := by decide) (he : starEach (e :: es) X.env = (false, eval e X.env) :: starEach es X.env := by rfl) (hpl : (backTo pos (starEach es X.env)).any (·.1) = false := by rfl) :
    PE X (.Call (.Name x p) (e :: es) [] pos) (tCall sp dvs E t) := by
  intro pins s σ H Q I h
  refine wpAny_Call_Name_kw (ld_glob I hg hm ?_ hdb)
  refine PySem.W.callWith_K (h₀ := X.base) I.ok.mod.kin hk (thn (ha pos pins s σ H _ I h) fun us s1 ⟨vs, H1, I1, r, q⟩ => ⟨I1.kIn, ?_⟩) he hpl
  exact run_fn F hr hb hd hx I1 r q
/-- what a class must have to be made -/
structure Mk (K : PySem.W.Frag) (C f : Addr) : Prop where
  makes : PySem.W.makesIn K C = true
  init : PySem.W.findIn K (.ref C) "__init__" = some (some (.ref f))
  fn : PySem.W.isFn K (.ref f) = true
  kp : PySem.W.keepIn K (.ref C) = true

end

/-! ### keywords -/
section
variable {X : Cx} {CX : CXT} {k : Nat} {f C : Addr} {fd : FuncData} {ps ks : List Str} {sp : Sp} {E : XK} {x m : Str} {p pos apos kpos : Pos} {e o : Expr} {es : List Expr} {kws : List Keyword} {te ta : TE} {t tk : TA} {nm : Option Str}
/-- how a call with keywords binds: g puts the positional values us and the keywords' values ws (names ks) in the parameters' order, defaults among them -/
structure KBinds (K : PySem.W.Frag) (fd : FuncData) (ps ks : List Str) (g : List Value → List Value → List Value) (gV : List V → List V → List V) : Prop where
  to : ∀ (s : Shared) (us ws : List Value), K.In s.heap → (g us ws).length = ps.length → BindsTo s fd ⟨us, ks.zip ws⟩ (ps.zip (g us ws))
  rel : ∀ {vs : List V} {us : List Value} {zs : List V} {ws : List Value}, Vals vs us → Vals zs ws → Vals (gV vs zs) (g us ws)
variable {g : List Value → List Value → List Value} {gV : List V → List V → List V}
end

/-! ### a def's body keeps its promise -/
/-- names: the parameters first -/
structure FnScope (N P : List Str) (sc : Scope) : Prop where
  kind : sc.kind = .function
  co : sc.isCoroutine = false
  gen : sc.isGenerator = false
  nd : N.Nodup
  pre : N.take P.length = P
  par : ∀ x ∈ P, sc.names.lookup x = some .local ∨ sc.names.lookup x = some .cell
  nofree : ∀ y ∈ sc.names, y.2 ≠ .free

theorem bindL_out {kindOf : Str → Option NameKind} {x : Str} : ∀ {binds : List (Str × Value)} {m : Str → Option Value}, (∀ v, (x, v) ∉ binds) → bindL kindOf binds m x = m x
  | [], _, _ => rfl
  | (n, v) :: r, m, h => by
    unfold bindL
    rw [bindL_out fun w hw => h w (List.mem_cons_of_mem _ hw)]
    split
    · have : x ≠ n := by rintro rfl; exact h v List.mem_cons_self
      simp [this]
    · rfl
theorem bindC_out {kindOf : Str → Option NameKind} {x : Str} : ∀ {binds : List (Str × Value)} {m : Str → Option Value}, (∀ v, (x, v) ∉ binds) → bindC kindOf binds m x = m x
  | [], _, _ => rfl
  | (n, v) :: r, m, h => by
    unfold bindC
    rw [bindC_out fun w hw => h w (List.mem_cons_of_mem _ hw)]
    split
    · rfl
    · have : x ≠ n := by rintro rfl; exact h v List.mem_cons_self
      simp [this]
theorem bindL_get {kindOf : Str → Option NameKind} {x : Str} {v : Value} : ∀ {P : List Str} {vs : List Value} {i : Nat} {m : Str → Option Value}, P.Nodup → P[i]? = some x → vs[i]? = some v → kindOf x = some .local →
    bindL kindOf (P.zip vs) m x = some v
  | [], _, _, _, _, h, _, _ => by simp at h
  | _ :: _, [], _, _, _, _, h, _ => by simp at h
  | p :: P, w :: vs, 0, m, nd, h1, h2, hk => by
    simp at h1 h2; subst h1; subst h2
    show bindL kindOf ((p, w) :: P.zip vs) m p = _
    unfold bindL
    rw [bindL_out fun v hv => (List.nodup_cons.mp nd).1 (List.of_mem_zip hv).1, if_pos hk]
    simp
  | p :: P, w :: vs, i + 1, m, nd, h1, h2, hk => by
    show bindL kindOf ((p, w) :: P.zip vs) m x = _
    unfold bindL
    exact bindL_get (i := i) (List.nodup_cons.mp nd).2 (by simpa using h1) (by simpa using h2) hk
theorem bindC_get {kindOf : Str → Option NameKind} {x : Str} {v : Value} : ∀ {P : List Str} {vs : List Value} {i : Nat} {m : Str → Option Value}, P.Nodup → P[i]? = some x → vs[i]? = some v → kindOf x ≠ some .local →
    bindC kindOf (P.zip vs) m x = some v
  | [], _, _, _, _, h, _, _ => by simp at h
  | _ :: _, [], _, _, _, _, h, _ => by simp at h
  | p :: P, w :: vs, 0, m, nd, h1, h2, hk => by
    simp at h1 h2; subst h1; subst h2
    show bindC kindOf ((p, w) :: P.zip vs) m p = _
    unfold bindC
    rw [bindC_out fun v hv => (List.nodup_cons.mp nd).1 (List.of_mem_zip hv).1, if_neg hk]
    simp
  | p :: P, w :: vs, i + 1, m, nd, h1, h2, hk => by
    show bindC kindOf ((p, w) :: P.zip vs) m x = _
    unfold bindC
    exact bindC_get (i := i) (List.nodup_cons.mp nd).2 (by simpa using h1) (by simpa using h2) hk

/-- the names' values at the entry -/
def start (N : List Str) (vs : List V) : St := vs.map some ++ List.replicate (N.length - vs.length) none

/-- the context of a def's body, at its entry; an exception leaves the frame, then lies as CX says -/
def cxOf (CX : CXT) (P : Program) (w : World) (K : PySem.W.Frag) (mg : Str → Option Value) (base : Heap) (N : List Str) (qual : Str) (scope : Scope) (f : Addr) (cd : Value) (A : Around) (outer : List Env) (s : Shared) (H : Hp) (E : XK) : Cx where
  prog := P
  w := w
  K := K
  mg := mg
  base := base
  A := A.deeper (envOfC qual scope s.heap.objs.size f cd)
  N := N
  s₀ := s
  H₀ := H
  env := envOfC qual scope s.heap.objs.size f cd
  outer := outer
  stack := envOfC qual scope s.heap.objs.size f cd :: outer
  ex := []
  calm := true
  fn := fun _ => true
  pn := []
  xe := fun e s' => wpAny (model P w) (A.deeper (envOfC qual scope s.heap.objs.size f cd)) (leaving (envOfC qual scope s.heap.objs.size f cd) e) (fun _ s'' => CX outer H s E e s'') (fun e' s'' => CX outer H s E e' s'') s'

theorem cell_has {sc : Scope} {n : Nat} {x : Str} (h : sc.names.lookup x = some .cell) : ∃ c, (cellsFrom n sc.names []).lookup x = some c := by
  have q := PySem.W.cellsFrom_some sc.names n [] (.inl h)
  exact Option.isSome_iff_exists.mp q

theorem inv_start {CX : CXT} {P : Program} {w : World} {K : PySem.W.Frag} {mg : Str → Option Value} {base : Heap} {N ps : List Str} {qual : Str} {scope : Scope} {f : Addr} {cd : Value} {A : Around} {outer : List Env} {s s1 : Shared} {H : Hp} {E : XK} {us : List Value} {vs : List V}
    (S : FnScope N ps scope) (hd : A.handled = none) (e0 : Env0 P w K mg base A outer s H) (hl : vs.length = ps.length) (r : Vals vs us)
    (x : InCallC s s.heap.objs.size (bindL (envOfC qual scope s.heap.objs.size f cd).kindOf (ps.zip us) fun _ => none) (cellsFrom (s.heap.objs.size + 1) scope.names []) (bindC (envOfC qual scope s.heap.objs.size f cd).kindOf (ps.zip us) fun _ => none) s1) :
    Inv (cxOf CX P w K mg base N qual scope f cd A outer s H E) [] (start N vs) H s1 := by
  have hpl : ps.length ≤ N.length := by have := congrArg List.length S.pre; rw [List.length_take] at this; omega
  obtain ⟨h1, tk, rfl, hk⟩ := x.done
  have noA : ∀ b : Addr, b ∉ (cxOf CX P w K mg base N qual scope f cd A outer s H E).ex := fun b z => absurd (show b ∈ ([] : List Addr) from z) (by simp)
  refine ⟨⟨e0.mod, S.kind, rfl, rfl, Nat.le_refl _, fun y z c h1 h2 => ?_, fun y hy => ?_, fun y c _ h => ?_, fun _ => hd, Around.frames_deeper e0.frames, .inr ⟨rfl, rfl⟩, fun b z => absurd z (noA b), e0.bs, e0.bsz, fun b _ _ => noA b, fun b z => absurd z (noA b), e0.funs, e0.frf⟩,
    rfl, e0.bare, Un.kept hk, ⟨_, x.toInCall.ns, fun i y v h1 h2 h3 => ?_⟩, fun y c h => ⟨_, x.cell y c h⟩, e0.hok.fresh (Nat.le_refl _), fun y c h => ?_, fun p hp => absurd (show p ∈ ([] : List (Addr × Obj)) from hp) (by simp), e0.hok.kept hk, ?_⟩
  · exact name_of_addr x.apart (PySem.mem_of_lookup h1) (PySem.mem_of_lookup h2)
  · have hy : scope.names.lookup y = some .cell ∨ scope.names.lookup y = some .free := hy
    rcases hy with hy | hy
    · exact cell_has hy
    · exact absurd rfl (S.nofree _ (PySem.mem_of_lookup hy))
  · exact Nat.le_of_lt (x.above y c (PySem.mem_of_lookup h))
  · have hi : i < vs.length := by
      unfold start at h2
      by_cases hi : i < vs.length
      · exact hi
      · rw [List.getElem?_append_right (by simpa using hi)] at h2
        rw [List.getElem?_replicate] at h2
        split at h2 <;> cases h2
    have ha : vs[i]? = some v := by
      unfold start at h2
      rw [List.getElem?_append_left (by simpa using hi), List.getElem?_map] at h2
      cases e : vs[i]? with
      | none => rw [e] at h2; cases h2
      | some a => rw [e] at h2; cases h2; rfl
    obtain ⟨u, hu, rv⟩ := r.get ha
    have hp : ps[i]? = some y := by
      rw [← S.pre, List.getElem?_take_of_lt (by omega)]; exact h1
    have ndP : ps.Nodup := by rw [← S.pre]; exact S.nd.sublist (List.take_sublist _ _)
    refine ⟨u, rv, ?_⟩
    rcases S.par y (List.mem_of_getElem? hp) with k | k
    · exact .inl ⟨k, bindL_get ndP hp hu k⟩
    · obtain ⟨c, e⟩ := cell_has (n := s.heap.objs.size + 1) k
      refine .inr ⟨.inl k, c, e, ?_⟩
      have q := x.cell y c e
      rw [bindC_get ndP hp hu (by show scope.names.lookup y ≠ _; rw [k]; decide)] at q
      exact q
  · exact e0.hok.fresh (Nat.le_of_lt (x.above y c (PySem.mem_of_lookup h)))
  · unfold start
    show _ = N.length
    rw [List.length_append, List.length_map, List.length_replicate]
    omega

/-- THE RULE: a def (or a method) of the text, by its body. The body's reading t is chosen for each entry; it is run at the parameters' values -/
theorem fn_of {CX : CXT} {P : Program} {w : World} {K : PySem.W.Frag} {mg : Str → Option Value} {base : Heap} {k : Nat} {f : Addr} {name qual : Str} {params : Arguments} {body : List Stmt} {scope : Scope} {dV kV doc pm cdv ct oc : Value} {an od : Option Addr}
    {osl : Array (Option Value)} {N ps : List Str} {sp : Sp} (lk : K.lookup f = some ⟨oc, od, .func (PySem.W.fnOf name qual params body scope dV kV doc pm an cdv ct), osl⟩) (hcd : PySem.W.codeIn K cdv qual = true) (S : FnScope N ps scope)
    (len : ∀ vs H Q E, sp vs H Q E → vs.length = ps.length)
    (hbody : ∀ (A : Around) (outer : List Env) (s : Shared) (H : Hp) (vs : List V) (Q : VK) (E : XK), Room k (A.deeper (envOfC qual scope s.heap.objs.size f cdv)) → sp vs H Q E →
      ∃ t, PSs (cxOf CX P w K mg base N qual scope f cdv A outer s H E) body t ∧ t { nx := fun _ H' => Q .non H', rt := Q } (start N vs) H) :
    FnOk P w K mg base CX (k + 1) f (PySem.W.fnOf name qual params body scope dV kV doc pm an cdv ct) ps sp := by
  refine ⟨len, fun A outer s H args us vs Q E hr e0 hb r hsp => ?_⟩
  have hl := len _ _ _ _ hsp
  have KX : K.In s.heap := e0.mod.kin.keeps fun b o e => (e0.bs b o e).1
  have lim : s.heap.NoLimit := e0.mod.nolimit.keeps fun b o e => (e0.bs b o e).1
  have hkind : ∀ y ∈ ps.zip us, scope.names.lookup y.1 = some .local ∨ (scope.names.lookup y.1 = some .cell ∧ ((cellsFrom (s.heap.objs.size + 1) scope.names []).lookup y.1).isSome = true) := fun ⟨n, v⟩ hy => by
    rcases S.par n (List.of_mem_zip hy).1 with q | q
    · exact .inl q
    · exact .inr ⟨q, PySem.W.cellsFrom_some _ _ _ (.inl q)⟩
  refine codeAny_call_function hr.depth (KX _ _ lk) rfl S.co S.gen rfl (PySem.W.codeRec_of KX hcd) (hb _ _ _ _ ?_)
  refine wpAny_newFunctionEnv_cells S.kind hkind fun env he s1 x => ?_
  subst he
  refine ⟨lim.keeps x.toInCall.keep, codeAny_func ?_⟩
  obtain ⟨t, ht, hq⟩ := hbody A outer s H vs Q E (hr.deeper _) hsp
  have I : Inv (cxOf CX P w K mg base N qual scope f cdv A outer s H E) [] (start N vs) H s1 := inv_start S hr.hd e0 hl r x
  refine wpAny_mono (ht [] s1 (start N vs) H _ I hq) (fun fl s' hs => ?_) fun e s' hs => hs
  have fin : ∀ {σ' : St} {H' : Hp} {v : V} {u : Value}, Inv (cxOf CX P w K mg base N qual scope f cdv A outer s H E) [] σ' H' s' → RelV v u → Q v H' → CE outer P w H s Q u s' :=
    fun {σ' H' v u} J rv q => ⟨v, H', J.os, J.bare, J.base, J.hok, rv, q⟩
  cases fl with
  | ret u =>
    obtain ⟨v, σ', H', J, rv, q⟩ := hs
    exact fin J rv q
  | next =>
    obtain ⟨σ', H', J, q⟩ := hs
    exact fin (v := V.non) (u := Value.none) J rfl q
  | brk =>
    obtain ⟨_, _, _, q⟩ := hs
    exact False.elim q
  | cont =>
    obtain ⟨_, _, _, q⟩ := hs
    exact False.elim q
end L2

namespace L2
open PySem PySem.Spec PyProof.Rows
section
variable {X : Cx} {x : Str} {p pos : Pos} {e : Expr} {es : List Expr} {t : TA} {id T : String} {r : List V → Hp → VK → Prop}

def tCB (r : List V → Hp → VK → Prop) (t : TA) : TE := fun σ H Q => t σ H fun vs H1 => r vs H1 Q
/-- f(e, ..), f a built-in function -/
theorem pe_callB (hc : CallR X (.builtin id) r) (hg : Gl X x) (hm : X.mg x = none) (hv : bootBuiltins x = some (.builtin id)) (ha : PA X (e :: es) t) (hn : x ≠ "__name__" := by decide) (hdb : (x == ("__debug__" : Str)) = false := by decide)
    (he : starEach (e :: es) X.env = (false, eval e X.env) :: starEach es X.env := by rfl) (hpl : (backTo pos (starEach es X.env)).any (·.1) = false := by rfl) : PE X (.Call (.Name x p) (e :: es) [] pos) (tCB r t) := by
  intro pins s σ H Q I h
  refine wpAny_Call_Name_kw (ld_blt I hg hm hv ?_ hn hdb)
  exact PyProof.Rows.callWith_builtin1 (thn (ha pos pins s σ H _ I h) fun us s1 ⟨vs, H1, I1, r1, q1⟩ => hc pins s1 σ H1 vs us Q I1 r1 q1) he hpl
/-- T(e, ..), T a built-in type -/
theorem pe_callTy (hc : CallR X (.type T) r) (hg : Gl X x) (hm : X.mg x = none) (hv : bootBuiltins x = some (.type T)) (ha : PA X (e :: es) t) (hn : x ≠ "__name__" := by decide) (hdb : (x == ("__debug__" : Str)) = false := by decide)
    (he : starEach (e :: es) X.env = (false, eval e X.env) :: starEach es X.env := by rfl) (hpl : (backTo pos (starEach es X.env)).any (·.1) = false := by rfl) : PE X (.Call (.Name x p) (e :: es) [] pos) (tCB r t) := by
  intro pins s σ H Q I h
  refine wpAny_Call_Name_kw (ld_blt I hg hm hv ?_ hn hdb)
  exact PyProof.Rows.callWith_type1 (thn (ha pos pins s σ H _ I h) fun us s1 ⟨vs, H1, I1, r1, q1⟩ => hc pins s1 σ H1 vs us Q I1 r1 q1) he hpl
end
end L2

namespace HT
open PySem PyProof.Rows

section
open PySem.SeqAt
open PySem.AutoSeq1 (wpAny_loadPart')
open PySem.MeetsSeq PySem.MeetsSeq2 PySem.MeetsSeq3

end

section
variable {prog : Program} {w : World} {A : Around} {E : Value → Shared → Prop} {s : Shared}

/-- t + u, t not empty -/
theorem cat_tup {t b : Addr} {vs ws : List Value} {Q : Value → Shared → Prop} (ht : IsTup s.heap t vs.toArray) (hb : IsTup s.heap b ws.toArray) (hv : vs ≠ [])
    (h1 : ws = [] → Q (.ref t) s) (h2 : ws ≠ [] → Q (.ref s.heap.objs.size) { s with heap := s.heap.push { cls := .type "tuple", data := .seq (vs ++ ws).toArray } })
    (hsz : vs.length + ws.length ≤ sizeLine) : wpAny (model prog w) A (binaryOp .Add (.ref t) (.ref b)) Q E s := by
  obtain ⟨⟨cls, dd, data, sl⟩, ho, hc, n, hd⟩ := id ht
  obtain ⟨⟨cls2, dd2, data2, sl2⟩, ho2, hc2, n2, hd2⟩ := id hb
  simp only at hc hd hc2 hd2
  subst hc hd hc2 hd2
  have e : vs.toArray ++ ws.toArray = (vs ++ ws).toArray := by simp
  by_cases hw : ws = []
  · exact concat_meets ⟨_, ho, rfl⟩ ⟨_, ho2, rfl⟩ noFill_tuple_add seq_tuple_add PySem.F.slot_tuple_add PySem.F.entry_tuple_add (PySem.F.args_tuple_add_2 _ _)
      (tuple_addW1 t b vs.toArray ws.toArray n n2 dd dd2 sl sl2 (by simpa using hv) (by simp [hw])) ⟨ho, ho2, h1 hw⟩
  · refine concat_meets ⟨_, ho, rfl⟩ ⟨_, ho2, rfl⟩ noFill_tuple_add seq_tuple_add PySem.F.slot_tuple_add PySem.F.entry_tuple_add (PySem.F.args_tuple_add_2 _ _)
      (tuple_addW2 t b vs.toArray ws.toArray n n2 dd dd2 sl sl2 (by simpa using hv) (by simpa using hw) (by rw [List.size_toArray, List.size_toArray]; exact hsz)) ⟨ho, ho2, ?_⟩
    rw [e]
    exact h2 hw

/-! ### t[a:b], not the whole -/
/-- a slice's bound as a place among n (d where it is left out) -/
def sIx (n d : Nat) : Option Int → Nat
  | none => d
  | some v => if v < 0 then (v + (n : Int)).toNat else min v.toNat n
theorem sIx_nat (n d k : Nat) : sIx n d (some (k : Int)) = min k n := by
  show (if (k : Int) < 0 then ((k : Int) + (n : Int)).toNat else min (k : Int).toNat n) = min k n
  rw [if_neg (by omega), Int.toNat_natCast]
theorem sIx_le (n d : Nat) (hd : d ≤ n) (o : Option Int) : sIx n d o ≤ n := by
  cases o with
  | none => exact hd
  | some v =>
    show (if v < 0 then (v + (n : Int)).toNat else min v.toNat n) ≤ n
    by_cases hv : v < 0
    · rw [if_pos hv]; omega
    · rw [if_neg hv]; exact Nat.min_le_right _ _
theorem clip_eq (v : Int) (n d : Nat) : (if v < 0 then max (v + (n : Int)) 0 else min v (n : Int)) = ((sIx n d (some v) : Nat) : Int) := by
  show (if v < 0 then max (v + (n : Int)) 0 else min v (n : Int)) = (((if v < 0 then (v + (n : Int)).toNat else min v.toNat n) : Nat) : Int)
  by_cases hv : v < 0
  · simp only [if_pos hv]; omega
  · simp only [if_neg hv]; omega
theorem adjust_gen (lo hi : Option Int) (n : Nat) : Builtin.Slice.sliceAdjust lo hi 1 (n : Int) = (((sIx n 0 lo : Nat) : Int), ((sIx n n hi : Nat) : Int)) := by
  have h1 : ¬ ((1 : Int) < 0) := by omega
  unfold Builtin.Slice.sliceAdjust
  simp only [h1, if_false]
  refine Prod.ext ?_ ?_
  · cases lo with
    | none => rfl
    | some v => exact clip_eq v n 0
  · cases hi with
    | none => rfl
    | some v => exact clip_eq v n n
theorem places_gen (i j : Nat) : Builtin.Slice.slicePlaces (i : Int) (j : Int) 1 = j - i := by
  unfold Builtin.Slice.slicePlaces
  have h1 : (1 : Int) > 0 := by omega
  simp only [h1, if_true, Int.ediv_one]
  split <;> omega
theorem slicePart_ {v : Value} {o : Option Int} {Q : Option Int → Shared → Prop} (p : IsPart v o) (h : Q o s) : wpAny (model prog w) A (Builtin.Slice.slicePartIndex v) Q E s := by
  cases p with
  | none => exact slicePart_none h
  | int i t => exact slicePart_int h
theorem sliceApplied_gen {sl : Addr} {vl vu : Value} {lo hi : Option Int} {n : Nat} {Q : Int × Int × Nat → Shared → Prop} (hs : s.heap.IsSliceOf sl vl vu .none) (pl : IsPart vl lo) (pu : IsPart vu hi)
    (h : Q (((sIx n 0 lo : Nat) : Int), 1, sIx n n hi - sIx n 0 lo) s) : wpAny (model prog w) A (Builtin.Slice.sliceApplied (.ref sl) (pure (n : Int))) Q E s := by
  obtain ⟨os, hos, hcs, hds⟩ := id hs
  unfold Builtin.Slice.sliceApplied Builtin.Slice.sliceFields
  refine wpAny_bind (wpAny_bind (wpAny_field hos hds (x := vl) rfl (wpAny_bind (wpAny_field hos hds (x := vu) rfl (wpAny_bind (wpAny_field hos hds (x := .none) rfl (wpAny_pure ?_)))))))
  refine wpAny_bind (slicePart_none ?_)
  show wpAny _ _ (if ((1 : Int) == 0) = true then _ else _) _ _ s
  rw [if_neg (by decide)]
  refine wpAny_bind (slicePart_ pl (wpAny_bind (slicePart_ pu (wpAny_bind (wpAny_pure ?_)))))
  show wpAny _ _ (match Builtin.Slice.sliceAdjust lo hi 1 (n : Int) with | (lo, hi) => pure (lo, (1 : Int), Builtin.Slice.slicePlaces lo hi 1)) _ _ s
  rw [adjust_gen lo hi n]
  show wpAny _ _ (pure (((sIx n 0 lo : Nat) : Int), (1 : Int), Builtin.Slice.slicePlaces ((sIx n 0 lo : Nat) : Int) ((sIx n n hi : Nat) : Int) 1)) _ _ s
  rw [places_gen]
  exact wpAny_pure h
theorem pick_gen (xs : Array Value) (i k : Nat) : ((List.range k).filterMap fun (m : Nat) => xs[((i : Int) + (m : Int) * 1).toNat]?).toArray = ((xs.toList.drop i).take k).toArray := by
  have e : (fun (m : Nat) => xs[((i : Int) + (m : Int) * 1).toNat]?) = fun m => xs[i + m]? := by
    funext m
    have : ((i : Int) + (m : Int) * 1).toNat = i + m := by omega
    rw [this]
  rw [e]
  have := pick_run xs i k
  rw [List.filterMap_map] at this
  have e2 : ((fun x => xs[x]?) ∘ fun x => i + x) = fun m => xs[i + m]? := rfl
  rw [e2] at this
  rw [this]

theorem getItem_tuple_cut {t sl : Addr} {items : Array Value} {vl vu : Value} {lo hi : Option Int} {Q : Value → Shared → Prop} (ht : IsTup s.heap t items) (hs : s.heap.IsSliceOf sl vl vu .none) (pl : IsPart vl lo) (pu : IsPart vu hi)
    (hw : ¬ (sIx items.size 0 lo = 0 ∧ sIx items.size items.size hi = items.size))
    (h : Q (.ref s.heap.objs.size) { s with heap := s.heap.push { cls := .type "tuple", data := .seq ((items.toList.drop (sIx items.size 0 lo)).take (sIx items.size items.size hi - sIx items.size 0 lo)).toArray } })
    (hsz : items.size ≤ sizeLine) : wpAny (model prog w) A (getItem (.ref t) (.ref sl)) Q E s := by
  have htake : sizeOk (.seq ((items.toList.drop (sIx items.size 0 lo)).take (sIx items.size items.size hi - sIx items.size 0 lo)).toArray) := by
    show ((items.toList.drop (sIx items.size 0 lo)).take (sIx items.size items.size hi - sIx items.size 0 lo)).toArray.size ≤ sizeLine
    rw [List.size_toArray, List.length_take, List.length_drop, Array.length_toList]
    omega
  have hj : sIx items.size items.size hi ≤ items.size := sIx_le _ _ (Nat.le_refl _) hi
  obtain ⟨os, hos, hcs, hds⟩ := id hs
  have hTs : s.TypeIs (.ref sl) "slice" := ⟨os, hos, hcs⟩
  unfold getItem
  try with_reducible refine wpAny_holding ?_
  first | refine wpAny_bind (wpAny_pure ?_) | skip
  refine wpAny_bind (wpAny_sequenceKey ht.typeIs (by decide) ?_)
  refine wpAny_bind (wpAny_callSpecial?_slot (name := Str.ofString "__getitem__") ht.typeIs PyProof.Rows.slot_tuple_getitem
    (wpAny_call_entry PyProof.Rows.slot_tuple_getitem ht.typeIs entry_tuple_getitem ?_ (args_tuple_getitem _ _)))
  show wpAny _ _ (Builtin.Tuple.tupleItemsOf (.ref t) >>= _) _ _ s
  refine wpAny_bind (tupleItemsOf_ ht ?_)
  refine wpAny_bind (wpAny_typeOf hTs ?_)
  rw [if_pos (by decide)]
  refine wpAny_bind (sliceApplied_gen hs pl pu ?_)
  have hno : ¬ ((((sIx items.size 0 lo : Nat) : Int) == 0 && (1 : Int) == 1 && (sIx items.size items.size hi - sIx items.size 0 lo) == items.size) = true) := by
    intro q
    rw [Bool.and_eq_true, Bool.and_eq_true] at q
    have q1 : ((sIx items.size 0 lo : Nat) : Int) = 0 := eq_of_beq q.1.1
    have q2 : sIx items.size items.size hi - sIx items.size 0 lo = items.size := eq_of_beq q.2
    exact hw ⟨by omega, by omega⟩
  show wpAny _ _ (if (((sIx items.size 0 lo : Nat) : Int) == 0 && (1 : Int) == 1 && (sIx items.size items.size hi - sIx items.size 0 lo) == items.size) = true then _ else _) _ _ s
  rw [if_neg hno, pick_gen]
  first
    | exact wpAny_bind (m := Builtin.Tuple.tupleExact _) (wpAny_newObj_type (wpAny_pure ⟨_, rfl, wpAny_pure h⟩) htake)
    | exact wpAny_bind (m := Builtin.Tuple.tupleExact _) (wpAny_newObj_type (wpAny_bind (wpAny_pure (wpAny_pure ⟨_, rfl, wpAny_pure h⟩))) htake)
    | exact wpAny_bind (wpAny_bind (m := Builtin.Tuple.tupleExact _) (wpAny_newObj_type (wpAny_pure (wpAny_pure ⟨_, rfl, wpAny_pure h⟩)) htake))
    | exact wpAny_bind (wpAny_bind (m := Builtin.Tuple.tupleExact _) (wpAny_newObj_type (wpAny_pure ⟨_, rfl, wpAny_pure h⟩) htake))
end
end HT

namespace L2
open PySem PySem.Spec PyProof.Rows

/-! ### the parts of a slice -/
abbrev TO := St → Hp → (Option Int → Hp → Prop) → Prop
/-- a slice's part (left out, or an int) -/
def PO (X : Cx) (e : Option Expr) (t : TO) : Prop :=
  ∀ (pins : List (Addr × Obj)) (s : Shared) (σ : St) (H : Hp) (Q : Option Int → Hp → Prop), Inv X pins σ H s → t σ H Q →
    wpAny (model X.prog X.w) X.A (evalPart e X.env) (fun u s' => ∃ o H', Inv X pins σ H' s' ∧ IsPart u o ∧ Q o H') X.xe s
def tNoPart : TO := fun _ H Q => Q none H
def tPart (t : TE) : TO := fun σ H Q => t σ H fun x H1 => ∃ i, x = .int i ∧ Q (some i) H1

theorem intsAre_of {ns : List Int} : ∀ {us : List Value}, Vals (ns.map V.int) us → IntsAre us ns := by
  induction ns with
  | nil => intro us r; rw [List.map_nil] at r; cases r; exact .nil
  | cons n ns ih =>
    intro us r
    rw [List.map_cons] at r
    cases r with
    | cons r1 r2 =>
      obtain ⟨t, e⟩ := r1
      subst e
      exact .cons n t (ih r2)

section
variable {X : Cx} {e : Expr} {te : TE} {lo hi : Option Expr} {tl th : TO} {pos p2 : Pos}

theorem po_none : PO X none tNoPart := by
  intro pins s σ H Q I h
  rw [evalPart_none]
  exact wpAny_pure ⟨none, H, I, .none, h⟩
theorem po_some (h : PE X e te) : PO X (some e) (tPart te) := by
  intro pins s σ H Q I hw
  rw [evalPart_some]
  refine thn (h pins s σ H _ I hw) fun u s1 ⟨x, H1, I1, r1, q1⟩ => ?_
  obtain ⟨i, rfl, q⟩ := q1
  obtain ⟨t, rfl⟩ := r1
  exact ⟨some i, H1, I1, .int i t, q⟩

/-- what a slice of a value is, by values: the slice object stands at sl -/
def SlR (X : Cx) (r : V → Option Int → Option Int → Hp → VK → Prop) : Prop :=
  ∀ (pins : List (Addr × Obj)) (s : Shared) (σ : St) (H : Hp) (x : V) (v vl vu : Value) (lo hi : Option Int) (sl : Addr) (Q : VK), Inv X pins σ H s → RelV x v → s.heap.IsSliceOf sl vl vu .none → IsPart vl lo → IsPart vu hi → r x lo hi H Q →
    ∃ T id, typeLookup (.type T) "__getitem__" = pure (some (.builtin id)) ∧ s.TypeIs v T ∧ wpAny (model X.prog X.w) X.A (getItem v (.ref sl)) (EP X pins σ Q) X.xe s
theorem SlR.or {r r' : V → Option Int → Option Int → Hp → VK → Prop} (h : SlR X r) (h' : SlR X r') : SlR X (fun x lo hi H Q => r x lo hi H Q ∨ r' x lo hi H Q) := by
  intro pins s σ H x v vl vu lo hi sl Q I rx hs pl pu q
  rcases q with q | q
  · exact h pins s σ H x v vl vu lo hi sl Q I rx hs pl pu q
  · exact h' pins s σ H x v vl vu lo hi sl Q I rx hs pl pu q
def tSl (r : V → Option Int → Option Int → Hp → VK → Prop) (te : TE) (tl th : TO) : TE := fun σ H Q => te σ H fun x H1 => tl σ H1 fun l H2 => th σ H2 fun u H3 => r x l u H3 Q
/-- a[lo:hi], any a -/
theorem pe_slice {r : V → Option Int → Option Int → Hp → VK → Prop} (hr : SlR X r) (he : PE X e te) (hl : PO X lo tl) (hu : PO X hi th) : PE X (.Subscript e (.Slice lo hi none p2) pos) (tSl r te tl th) := by
  intro pins s σ H Q I h
  refine Subscript_ (thn (he pins s σ H _ I h) fun v s1 ⟨x, H1, I1, r1, q1⟩ => ?_)
  refine wpAny_Slice (thn (hl pins s1 σ H1 _ I1 q1) fun vl s2 ⟨l, H2, I2, pl, q2⟩ => thn (hu pins s2 σ H2 _ I2 q2) fun vu s3 ⟨u, H3, I3, pu, q3⟩ => ?_)
  rw [evalPart_none]
  refine wpAny_pure ?_
  have I4 : Inv X pins σ H3 { s3 with heap := s3.heap.push { cls := .type "slice", data := .fields #[vl, vu, .none] } } := I3.kept (t' := s3.toks) fun b ob q => Heap.get?_push_of_some _ q
  obtain ⟨T, id, hT, ht, hg⟩ := hr pins { s3 with heap := s3.heap.push { cls := .type "slice", data := .fields #[vl, vu, .none] } } σ H3 x v vl vu l u s3.heap.objs.size Q I4 r1 (Heap.IsSliceOf.new ..) pl pu q3
  show wpAny (model X.prog X.w) X.A (subscriptTail e (.Slice lo hi none p2) v (.ref s3.heap.objs.size)) (EP X pins σ Q) X.xe { s3 with heap := s3.heap.push { cls := .type "slice", data := .fields #[vl, vu, .none] } }
  exact tail_any (ops := [.ref s3.heap.objs.size, v]) ht hT hg (by with_unfolding_all rfl)

/-- the items of xs[lo:hi] -/
def cutV (xs : List V) (lo hi : Option Int) : List V := (xs.drop (HT.sIx xs.length 0 lo)).take (HT.sIx xs.length xs.length hi - HT.sIx xs.length 0 lo)
theorem cutV_length (xs : List V) (lo hi : Option Int) : (cutV xs lo hi).length ≤ xs.length := by
  unfold cutV
  rw [List.length_take, List.length_drop]
  omega
/-- t[lo:hi], not the whole of it (the whole would be t itself) -/
def rSlT (K : PySem.W.Frag) : V → Option Int → Option Int → Hp → VK → Prop := fun x lo hi H Q => ∃ a xs, x = .ref a ∧ SqT K H a xs ∧
  ¬ (HT.sIx xs.length 0 lo = 0 ∧ HT.sIx xs.length xs.length hi = xs.length) ∧ ∀ p, H p = none → Q (.ref p) (upd H p (.tup (cutV xs lo hi)))
theorem sl_tup : SlR X (rSlT X.K) := by
  intro pins s σ H x v vl vu lo hi sl Q I rx hs pl pu h
  obtain ⟨a, xs, rfl, hx, hw, q⟩ := h
  cases rx
  obtain ⟨its, r, ht, hz⟩ := I.tuple hx
  have hlen : its.toArray.size = xs.length := by rw [List.size_toArray]; exact r.length.symm
  refine ⟨"tuple", _, PyProof.Rows.slot_tuple_getitem.lookup, ht.typeIs, ?_⟩
  refine HT.getItem_tuple_cut ht hs pl pu (by rw [hlen]; exact hw) ?_ (by rw [hlen]; exact hz)
  rw [hlen]
  refine ⟨.ref s.heap.objs.size, _, I.laid (t' := s.toks) (o := .tup (cutV xs lo hi)) (fun b ob q => Heap.get?_push_of_some _ q) (Nat.le_refl _) ?_, rfl, q _ (I.hok.fresh (Nat.le_refl _))⟩
  exact ⟨Nat.le_trans (cutV_length xs lo hi) hz, _, (r.drop (HT.sIx xs.length 0 lo)).take (HT.sIx xs.length xs.length hi - HT.sIx xs.length 0 lo), IsTup.new _ _⟩

/-! ### t < u, t + u -/
/-- t + u, t not empty: u empty gives t itself -/
def rCatT (K : PySem.W.Frag) : R2 := fun x y H Q => ∃ a b xs ys, x = .ref a ∧ y = .ref b ∧ SqT K H a xs ∧ SqT K H b ys ∧ xs ≠ [] ∧ xs.length + ys.length ≤ sizeLine ∧
  (ys = [] → Q (.ref a) H) ∧ (ys ≠ [] → ∀ p, H p = none → Q (.ref p) (upd H p (.tup (xs ++ ys))))
theorem Vals.nil_iff {xs : List V} {us : List Value} (r : Vals xs us) : us = [] ↔ xs = [] := by
  cases r with
  | nil => simp
  | cons _ _ => simp
theorem op_catT : OpR X (binaryOp .Add) (rCatT X.K) := by
  intro pins s σ H x y v u Q I rx ry h
  obtain ⟨a, b, xs, ys, rfl, rfl, ha, hb, hx, hz, q1, q2⟩ := h
  cases rx
  cases ry
  obtain ⟨its, r1, p1, _⟩ := I.tuple ha
  obtain ⟨its2, r2, p2, _⟩ := I.tuple hb
  refine HT.cat_tup p1 p2 (fun z => hx (r1.nil_iff.mp z)) (fun z => ⟨.ref a, H, I, rfl, q1 (r2.nil_iff.mp z)⟩) (fun z => ?_) (by rw [← r1.length, ← r2.length]; exact hz)
  refine ⟨.ref s.heap.objs.size, _, I.laid (t' := s.toks) (o := .tup (xs ++ ys)) (fun b ob q => Heap.get?_push_of_some _ q) (Nat.le_refl _) ?_, rfl, q2 (fun w => z (r2.nil_iff.mpr w)) _ (I.hok.fresh (Nat.le_refl _))⟩
  exact ⟨by rw [List.length_append]; exact hz, _, r1.append r2, IsTup.new _ _⟩
end
end L2

namespace L2
open PySem PySem.Spec PyProof.Rows

/-! ### places -/
/-- the place that an index of any sign means -/
def ixN (n : Nat) (i : Int) : Option Nat := if 0 ≤ i then (if i < n then some i.toNat else none) else if -(n : Int) ≤ i then some (i + n).toNat else none
def atI {α : Type} (xs : List α) (i : Int) : Option α := (ixN xs.length i).bind fun j => xs[j]?
theorem ixN_seq {n : Nat} {i : Int} {j : Nat} (h : ixN n i = some j) : seqIndex? i n = some j ∧ j < n ∧ -(n : Int) ≤ i ∧ i < n := by
  unfold ixN at h
  by_cases h0 : 0 ≤ i
  · rw [if_pos h0] at h
    by_cases h1 : i < n
    · rw [if_pos h1] at h
      have e : i.toNat = j := Option.some.inj h
      exact ⟨by rw [seqIndex_of h0 h1, e], by omega, by omega, h1⟩
    · rw [if_neg h1] at h; cases h
  · rw [if_neg h0] at h
    by_cases h1 : -(n : Int) ≤ i
    · rw [if_pos h1] at h
      have e : (i + n).toNat = j := Option.some.inj h
      exact ⟨by rw [seqIndex_neg (by omega) h1, e], by omega, h1, by omega⟩
    · rw [if_neg h1] at h; cases h
theorem atI_get {α : Type} {xs : List α} {i : Int} {v : α} (h : atI xs i = some v) : ∃ j, seqIndex? i xs.length = some j ∧ xs[j]? = some v ∧ j < xs.length ∧ -(xs.length : Int) ≤ i ∧ i < xs.length := by
  unfold atI at h
  cases e : ixN xs.length i with
  | none => rw [e] at h; cases h
  | some j =>
    rw [e] at h
    obtain ⟨h1, h2, h3, h4⟩ := ixN_seq e
    exact ⟨j, h1, h, h2, h3, h4⟩
theorem atI_nat {α : Type} {xs : List α} {j : Nat} {v : α} (h : xs[j]? = some v) : atI xs (j : Int) = some v := by
  have hj : j < xs.length := (List.getElem?_eq_some_iff.mp h).1
  have e : ixN xs.length (j : Int) = some j := by
    unfold ixN
    rw [if_pos (by omega), if_pos (by omega)]; simp
  unfold atI; rw [e]; exact h
/-! ### what may be subscripted -/
/-- what stands as an index of a plain subscript -/
def PlainIx (b : Expr) : Prop := ∀ o i, subscripted b false o i = operate [o, i] (getItem o i)
/-- a subscript by values -/
def IxR (X : Cx) (r : R2) : Prop :=
  ∀ (value slice : Expr) (pins : List (Addr × Obj)) (s : Shared) (σ : St) (H : Hp) (x y : V) (v u : Value) (Q : VK), Inv X pins σ H s → RelV x v → RelV y u → r x y H Q →
    subscripted slice false v u = operate [v, u] (getItem v u) → wpAny (model X.prog X.w) X.A (subscriptTail value slice v u) (EP X pins σ Q) X.xe s
/-- a call of a builtin's method by values: the receiver, the arguments -/
def MtR (X : Cx) (id : String) (r : V → List V → Hp → VK → Prop) : Prop :=
  ∀ (pins : List (Addr × Obj)) (s : Shared) (σ : St) (H : Hp) (x : V) (xs : List V) (v : Value) (us : List Value) (Q : VK), Inv X pins σ H s → RelV x v → Vals xs us → r x xs H Q →
    wpAny (model X.prog X.w) X.A (call (.builtin id) (v :: us)) (EP X pins σ Q) X.xe s
section
variable {X : Cx} {a b : Expr} {ta tb : TE} {pos : Pos}
theorem IxR.or {r r' : R2} (h : IxR X r) (h' : IxR X r') : IxR X (fun x y H Q => r x y H Q ∨ r' x y H Q) := by
  intro value slice pins s σ H x y v u Q I rx ry q hs
  rcases q with q | q
  · exact h value slice pins s σ H x y v u Q I rx ry q hs
  · exact h' value slice pins s σ H x y v u Q I rx ry q hs
theorem MtR.or {id : String} {r r' : V → List V → Hp → VK → Prop} (h : MtR X id r) (h' : MtR X id r') : MtR X id (fun x xs H Q => r x xs H Q ∨ r' x xs H Q) := by
  intro pins s σ H x xs v us Q I rx rs q
  rcases q with q | q
  · exact h pins s σ H x xs v us Q I rx rs q
  · exact h' pins s σ H x xs v us Q I rx rs q
/-- a[b] -/
theorem pe_ix {r : R2} (hr : IxR X r) (ha : PE X a ta) (hb : PE X b tb) (hs : PlainIx b) : PE X (.Subscript a b pos) (tOp r ta tb) := by
  intro pins s σ H Q I h
  exact Subscript_ (binT ha hb I h fun v u s2 x y H2 I2 rx ry q => hr a b pins s2 σ H2 x y v u Q I2 rx ry q (hs _ _))

def rIxL (K : PySem.W.Frag) : R2 := fun x y H Q => ∃ p xs i v, x = .ref p ∧ y = .int i ∧ SqL K H p xs ∧ atI xs i = some v ∧ Q v H
def rIxT (K : PySem.W.Frag) : R2 := fun x y H Q => ∃ p xs i v, x = .ref p ∧ y = .int i ∧ SqT K H p xs ∧ atI xs i = some v ∧ Q v H
def rIxS : R2 := fun x y H Q => ∃ z i c, x = .str z ∧ y = .int i ∧ z.length ≤ sizeLine ∧ atI z.cps.toList i = some c ∧ Q (.str ⟨#[c]⟩) H
theorem ix_list : IxR X (rIxL X.K) := by
  intro value slice pins s σ H x y v u Q I rx ry h hs
  obtain ⟨p, xs, i, z, rfl, rfl, hq, he, q⟩ := h
  cases rx
  obtain ⟨t, rfl⟩ := ry
  obtain ⟨its, r, pl, hz⟩ := I.list hq
  obtain ⟨j, h1, h2, h3, h4, h5⟩ := atI_get he
  obtain ⟨w, ew, rw'⟩ := r.get h2
  have hl := r.length
  have hn := line63
  have fin : EP X pins σ Q w s := ⟨z, H, I, rw', q⟩
  by_cases h0 : 0 ≤ i
  · have hj : i.toNat = j := by
      rw [seqIndex_of h0 h5] at h1
      exact Option.some.inj h1
    exact item_listR pl.isList h0 (by omega) (by rw [hj]; simpa using ew) fin hs
  · have hj : (i + (its.toArray.size : Int)).toNat = j := by
      rw [seqIndex_neg (by omega) h4] at h1
      rw [List.size_toArray, ← hl]
      exact Option.some.inj h1
    exact subscriptTail_builtinR (x := w) pl.isList.typeIs slot_list_getitem.lookup
      (wpAny_getItem_list_neg (Q := fun r s' => r = w ∧ EP X pins σ Q r s') pl.isList (by omega) (by rw [List.size_toArray] <;> omega) (by omega) (by rw [hj]; simpa using ew) ⟨rfl, fin⟩) hs
theorem ix_tup : IxR X (rIxT X.K) := by
  intro value slice pins s σ H x y v u Q I rx ry h hs
  obtain ⟨p, xs, i, z, rfl, rfl, hq, he, q⟩ := h
  cases rx
  obtain ⟨t, rfl⟩ := ry
  obtain ⟨its, r, pl, hz⟩ := I.tuple hq
  obtain ⟨j, h1, h2, h3, h4, h5⟩ := atI_get he
  obtain ⟨w, ew, rw'⟩ := r.get h2
  have hl := r.length
  have hn := line63
  have fin : EP X pins σ Q w s := ⟨z, H, I, rw', q⟩
  exact subscriptTail_builtinR (x := w) pl.typeIs slot_tuple_getitem.lookup
    (getItem_tuple (j := j) (Q := fun r s' => r = w ∧ EP X pins σ Q r s') pl (by omega) (by omega) (by rw [List.size_toArray, ← hl]; exact h1) (by simpa using ew) ⟨rfl, fin⟩) hs
theorem ix_str : IxR X rIxS := by
  intro value slice pins s σ H x y v u Q I rx ry h hs
  obtain ⟨z, i, c, rfl, rfl, hz, he, q⟩ := h
  obtain ⟨t, rfl⟩ := rx
  obtain ⟨t', rfl⟩ := ry
  obtain ⟨j, h1, h2, h3, h4, h5⟩ := atI_get he
  have hl : z.cps.toList.length = z.length := by simp [Str.length]
  rw [hl] at h1 h4 h5
  have hn := line63
  exact tail_any (typeIs_str s z t) slot_str_getitem.lookup (getItem_str (c := c) (by
    have e1 : decide (i < -(2 ^ 63 : Int)) = false := decide_eq_false (by omega)
    have e2 : decide (i ≥ 2 ^ 63) = false := decide_eq_false (by omega)
    rw [e1, e2, Bool.or_false]) (by rw [h1]; simpa using h2) ⟨.str ⟨#[c]⟩, H, I.tok _, ⟨_, rfl⟩, q⟩) hs
/-- list, tuple or str -/
def rIx (K : PySem.W.Frag) : R2 := fun x y H Q => rIxL K x y H Q ∨ rIxT K x y H Q ∨ rIxS x y H Q
theorem ix_seq : IxR X (rIx X.K) := ix_list.or (ix_tup.or ix_str)

/-! ### xs[i] = v, any sign -/
theorem Inv.lst {pins : List (Addr × Obj)} {σ : St} {H : Hp} {s : Shared} {p : Addr} {xs : List V} (I : Inv X pins σ H s) (h : H p = some (.lst xs)) :
    ∃ (its : List Value) (n : Nat), Vals xs its ∧ s.heap.get? p = some { cls := .type "list", data := .seq its.toArray n } ∧ xs.length ≤ sizeLine := by
  obtain ⟨z, its, n, r, e⟩ := I.hok p _ h
  exact ⟨its, n, r, e, z⟩
/-! ### slices -/
theorem slice_bounds (lo hi : Option Int) (n : Nat) : (sliceBounds lo hi none n).1 = ((HT.sIx n 0 lo : Nat) : Int) ∧ (sliceBounds lo hi none n).2.1 = ((HT.sIx n n hi : Nat) : Int) ∧ (sliceBounds lo hi none n).2.2 = 1 := by
  refine ⟨?_, ?_, rfl⟩
  · cases lo with
    | none => simp [sliceBounds, HT.sIx]
    | some i =>
      simp only [sliceBounds, HT.sIx, Option.getD_none, show (1 : Int) > 0 by decide, if_true]
      by_cases h : i < 0
      · simp only [h, if_true] <;> omega
      · simp only [h, if_false] <;> omega
  · cases hi with
    | none => simp [sliceBounds, HT.sIx]
    | some i =>
      simp only [sliceBounds, HT.sIx, Option.getD_none, show (1 : Int) > 0 by decide, if_true]
      by_cases h : i < 0
      · simp only [h, if_true] <;> omega
      · simp only [h, if_false] <;> omega
theorem slicePick_cut (its : List Value) (lo hi : Option Int) : slicePick its.toArray lo hi none = ((its.drop (HT.sIx its.length 0 lo)).take (HT.sIx its.length its.length hi - HT.sIx its.length 0 lo)).toArray := by
  obtain ⟨h1, h2, h3⟩ := slice_bounds lo hi its.toArray.size
  unfold slicePick
  rw [h1, h2, h3]
  simp only [sliceRange_one, pick_run, List.size_toArray] <;> rfl
/-- xs[lo:hi] of a list: a new list -/
def rSlL (K : PySem.W.Frag) : V → Option Int → Option Int → Hp → VK → Prop := fun x lo hi H Q => ∃ a xs, x = .ref a ∧ SqL K H a xs ∧ ∀ p, H p = none → Q (.ref p) (upd H p (.lst (cutV xs lo hi)))
theorem sl_list : SlR X (rSlL X.K) := by
  intro pins s σ H x v vl vu lo hi sl Q I rx hs pl pu h
  obtain ⟨a, xs, rfl, hx, q⟩ := h
  cases rx
  obtain ⟨its, r, ht, hz⟩ := I.list hx
  have hlen := r.length
  refine ⟨"list", _, slot_list_getitem.lookup, ht.isList.typeIs, ?_⟩
  refine wpAny_getItem_list_slice ht.isList hs pl pu .none (by simp) ?_ (by rw [List.size_toArray] <;> omega)
  rw [slicePick_cut, ← hlen]
  refine ⟨.ref s.heap.objs.size, _, I.laid (t' := s.toks) (o := .lst (cutV xs lo hi)) (fun b ob q => Heap.get?_push_of_some _ q) (Nat.le_refl _) ?_, rfl, q _ (I.hok.fresh (Nat.le_refl _))⟩
  exact ⟨Nat.le_trans (cutV_length xs lo hi) hz, _, 0, (r.drop (HT.sIx xs.length 0 lo)).take (HT.sIx xs.length xs.length hi - HT.sIx xs.length 0 lo), Heap.get?_push_size _ rfl⟩

/-! ### in, not in: flat items -/
/-! ### len, list(x), tuple(x) of any list or tuple that is read -/
theorem call_len_seq : CallR X (.builtin "len") (fun xs H Q => ∃ p ys, xs = [.ref p] ∧ (SqL X.K H p ys ∨ SqT X.K H p ys) ∧ Q (.int ys.length) H) := by
  intro pins s σ H xs us Q I r h
  obtain ⟨p, ys, rfl, hq, q⟩ := h
  obtain ⟨u, rfl, rx⟩ := vals1 r
  cases rx
  have hn := line63
  rcases hq with hq | hq
  · obtain ⟨its, r', pl, hz⟩ := I.list hq
    have hlen := r'.length
    exact Calls.call_len_list pl.isList (by simp only [List.size_toArray] <;> omega) ⟨.int ys.length, H, I.tok _, ⟨s.toks + 1, by rw [List.size_toArray, hlen]⟩, q⟩
  · obtain ⟨its, r', pl, hz⟩ := I.tuple hq
    have hlen := r'.length
    exact len_tuple pl (by simp only [List.size_toArray] <;> omega) ⟨.int ys.length, H, I.tok _, ⟨s.toks + 1, by rw [List.size_toArray, hlen]⟩, q⟩
theorem call_len_str : CallR X (.builtin "len") (fun xs H Q => ∃ z, xs = [.str z] ∧ z.length ≤ sizeLine ∧ Q (.int z.length) H) := by
  intro pins s σ H xs us Q I r h
  obtain ⟨z, rfl, hz, q⟩ := h
  obtain ⟨u, rfl, t, rfl⟩ := vals1 r
  have hn := line63
  exact len_str (by omega) ⟨.int z.length, H, I.tok _, ⟨_, rfl⟩, q⟩
theorem CallR.or {f : Value} {r r' : List V → Hp → VK → Prop} (h : CallR X f r) (h' : CallR X f r') : CallR X f (fun xs H Q => r xs H Q ∨ r' xs H Q) := by
  intro pins s σ H xs us Q I rs q
  rcases q with q | q
  · exact h pins s σ H xs us Q I rs q
  · exact h' pins s σ H xs us Q I rs q
theorem call_list_of : CallR X (.type "list") (fun xs H Q => ∃ p ys, xs = [.ref p] ∧ (SqL X.K H p ys ∨ SqT X.K H p ys) ∧ ∀ l, H l = none → Q (.ref l) (upd H l (.lst ys))) := by
  intro pins s σ H xs us Q I r h
  obtain ⟨p, ys, rfl, hq, q⟩ := h
  obtain ⟨u, rfl, rx⟩ := vals1 r
  cases rx
  have fin : ∀ (its : List Value), Vals ys its → ys.length ≤ sizeLine → ∀ (h' : Heap) (c' : Nat), (∀ b o', s.heap.get? b = some o' → h'.get? b = some o') →
      h'.get? s.heap.objs.size = some { cls := .type "list", dict := none, data := .seq its.toArray c', slots := #[] } → EP X pins σ Q (.ref s.heap.objs.size) { s with heap := h' } := fun its r' hz h' c' kp e =>
    ⟨.ref s.heap.objs.size, _, I.laid (t' := s.toks) kp (Nat.le_refl _) (show ObjOk X.prog X.w _ h' _ (.lst ys) from ⟨hz, its, c', r', e⟩), rfl, q _ (I.hok.fresh (Nat.le_refl _))⟩
  rcases hq with hq | hq
  · obtain ⟨its, r', pl, hz⟩ := I.list hq
    have hlen := r'.length
    obtain ⟨o, ho, hc, n, hd⟩ := pl.isList
    exact call_list_seq p (.inl rfl) ho hc hd (fun h' c' kp e => fin its r' hz h' c' kp e) (by simp only [List.size_toArray] <;> omega)
  · obtain ⟨its, r', pl, hz⟩ := I.tuple hq
    have hlen := r'.length
    obtain ⟨o, ho, hc, n, hd⟩ := pl
    exact call_list_seq p (.inr rfl) ho hc hd (fun h' c' kp e => fin its r' hz h' c' kp e) (by simp only [List.size_toArray] <;> omega)
/-! ### the call of a builtin's method: o.m(..) -/
/-- the value is of that builtin type -/
def tyV (K : PySem.W.Frag) (T : String) (x : V) (H : Hp) : Prop := match x with
  | .str _ => T = "str"
  | .int _ => T = "int"
  | .ref p => (T = "list" ∧ ∃ xs, SqL K H p xs) ∨ (T = "tuple" ∧ ∃ o, K.lookup p = some o ∧ o.cls = .type "tuple" ∧ o.dict = none) ∨
      (T = "dict" ∧ ((∃ kvs, H p = some (.dK kvs)) ∨ ∃ kvs, H p = some (.dT kvs))) ∨ (T = "set" ∧ ∃ S n, H p = some (.set S n))
  | _ => False
theorem tyV_is {pins : List (Addr × Obj)} {σ : St} {H : Hp} {s : Shared} {T : String} {x : V} {v : Value} (I : Inv X pins σ H s) (r : RelV x v) (ty : tyV X.K T x H) :
    s.TypeIs v T ∧ ∀ a, v = .ref a → ∃ ob, s.heap.get? a = some ob ∧ ob.dict = none := by
  cases x with
  | str z =>
    obtain ⟨t, rfl⟩ := r
    cases (show T = "str" from ty)
    exact ⟨typeIs_str s z t, fun _ e => nomatch e⟩
  | int i =>
    obtain ⟨t, rfl⟩ := r
    cases (show T = "int" from ty)
    exact ⟨typeIs_int s i t, fun _ e => nomatch e⟩
  | ref p =>
    cases r
    rcases ty with ⟨rfl, xs, hq⟩ | ⟨rfl, o, hk, hc, hd⟩ | ⟨rfl, hk⟩ | ⟨rfl, S, n, hk⟩
    · obtain ⟨its, _, pl, _⟩ := I.list hq
      refine ⟨pl.isList.typeIs, fun a e => ?_⟩
      cases e
      obtain ⟨o, n, e, c, hd, _⟩ := pl
      exact ⟨o, e, hd⟩
    · refine ⟨⟨o, I.kIn p o hk, hc⟩, fun a e => ?_⟩
      cases e
      exact ⟨o, I.kIn _ o hk, hd⟩
    · have z : ∃ o, s.heap.get? p = some o ∧ o.ExactDict := by
        rcases hk with ⟨kvs, hk⟩ | ⟨kvs, hk⟩
        · obtain ⟨_, _, _, _, o, _, _, e, ex, _⟩ := I.hok p _ hk
          exact ⟨o, e, ex⟩
        · obtain ⟨_, _, _, _, o, _, _, e, ex, _⟩ := I.hok p _ hk
          exact ⟨o, e, ex⟩
      obtain ⟨o, e, ex⟩ := z
      refine ⟨⟨o, e, ex.1⟩, fun a e2 => ?_⟩
      cases e2
      exact ⟨o, e, ex.2.1⟩
    · obtain ⟨o, _, _, _, e, ex, _⟩ := I.hok p _ hk
      refine ⟨⟨o, e, ex.1⟩, fun a e2 => ?_⟩
      cases e2
      exact ⟨o, e, ex.2.1⟩
  | _ => exact False.elim ty
def tBM (K : PySem.W.Frag) (T : String) (r : V → List V → Hp → VK → Prop) (to : TE) (t : TA) : TE := fun σ H Q => to σ H fun x H1 => tyV K T x H1 ∧ t σ H1 fun xs H2 => r x xs H2 Q
variable {o e : Expr} {es : List Expr} {to : TE} {t : TA} {name : Str} {apos cpos : Pos} {T id : String} {r : V → List V → Hp → VK → Prop}
theorem pe_bm (pa : PlainAttrs T) (slot : Slot T name id) (hty : typeOf (.builtin id) = pure (.type "method_descriptor")) (hm : MtR X id r) (ho : PE X o to) (ha : PA X (e :: es) t)
    (hbase : attributeBase o name X.env (eval o X.env) = eval o X.env := by rfl)
    (hfew : ((backTo cpos (starEach (e :: es) X.env)).all (fun x => !x.1) && (backToKw cpos (keywordEach [] X.env)).all (fun x => x.1.isSome)
      && decide ((e :: es).length + ([] : List Keyword).length + (if ([] : List Keyword).isEmpty then 0 else 1) < 30)) = true := by rfl)
    (hline : (apos.endLine == cpos.line) = true := by rfl) (hs : starEach (e :: es) X.env = (false, eval e X.env) :: starEach es X.env := by rfl) (hplain : (backTo cpos (starEach es X.env)).any (·.1) = false := by rfl) :
    PE X (.Call (.Attribute o name apos) (e :: es) [] cpos) (tBM X.K T r to t) := by
  intro pins s σ H Q I h
  refine wpAny_Call_method_late hbase hfew hline rfl (thn (ho pins s σ H _ I h) fun v s1 ⟨x, H1, I1, r1, ty, q1⟩ => ?_)
  obtain ⟨h1, h2⟩ := tyV_is I1 r1 ty
  refine ⟨T, id, pa, slot, hty, h1, h2, ?_⟩
  have hA := ha cpos pins s1 σ H1 _ I1 q1
  rw [hs] at hA ⊢
  refine Calls.callWith_builtin (by show (false || (backTo cpos (starEach es X.env)).any (·.1)) = false; rw [hplain] <;> rfl) (Calls.evalArgs_plain ?_)
  exact thn hA fun us s2 ⟨vs, H2, I2, r2, q2⟩ => hm pins s2 σ H2 x vs v us Q I2 r1 r2 q2
/- xs.append(e), list.index on a module's tuple .. are MtR facts of 06m -/
end
end L2

namespace L2
open PySem PySem.Spec PyProof.Rows

def MtM (X : Cx) (id : String) (r : V → List V → Hp → VK → Prop) : Prop :=
  ∀ (pins : List (Addr × Obj)) (s : Shared) (σ : St) (H : Hp) (x : V) (xs : List V) (v : Value) (us : List Value) (Q : VK), Inv X pins σ H s → RelV x v → Vals xs us → r x xs H Q →
    wpAny (model X.prog X.w) X.A (call (.builtin id) (v :: us)) (EP X pins σ Q) X.xe s

/-! ### lists of values -/
theorem Vals.one : ∀ {x : V} {us : List Value}, Vals [x] us → ∃ u, us = [u] ∧ RelV x u
  | _, _, .cons r .nil => ⟨_, rfl, r⟩
theorem Vals.two : ∀ {x y : V} {us : List Value}, Vals [x, y] us → ∃ u v, us = [u, v] ∧ RelV x u ∧ RelV y v
  | _, _, _, .cons r (.cons q .nil) => ⟨_, _, rfl, r, q⟩
theorem Vals.zero : ∀ {us : List Value}, Vals [] us → us = []
  | _, .nil => rfl
theorem Vals.reverse {xs : List V} {us : List Value} (h : Vals xs us) : Vals xs.reverse us.reverse := by
  induction h with
  | nil => exact .nil
  | cons r t ih => rw [List.reverse_cons, List.reverse_cons]; exact Vals.append ih (.cons r .nil)
section
variable {X : Cx} {pins : List (Addr × Obj)} {σ : St} {H : Hp} {s : Shared} {l b : Addr} {xs ys zs : List V}

/-! ### the two steps: a tracked list is rewritten, a new list is laid -/
theorem Inv.lset {its its' : List Value} {n : Nat} {f : Array Value → Array Value} {t' : Nat} (I : Inv X pins σ H s) (hH : H l = some (.lst xs))
    (e : s.heap.get? l = some { cls := .type "list", data := .seq its.toArray n }) (hf : f its.toArray = its'.toArray) (hv : Vals ys its') (hz : ys.length ≤ sizeLine) :
    Inv X pins σ (upd H l (.lst ys)) { s with heap := s.heap.update l (Obj.mapSeq f), toks := t' } := by
  have q := PySem.IsL.update e f
  rw [hf] at q
  refine I.write (x := l) (e := l) (by rw [hH]; exact trivial) (.inl rfl) (fun b' u hb hu => (Heap.get?_update_other s.heap (Obj.mapSeq f) (Ne.symm hb)).trans hu) ⟨_, q⟩ ?_
  exact ⟨hz, its', _, hv, q⟩
theorem Inv.lnew {its : List Value} {t' : Nat} (I : Inv X pins σ H s) (hv : Vals ys its) (hz : ys.length ≤ sizeLine) :
    Inv X pins σ (upd H s.heap.objs.size (.lst ys)) { s with heap := s.heap.push { cls := .type "list", data := .seq its.toArray }, toks := t' } :=
  I.laid (fun _ _ q => Heap.get?_push_of_some _ q) (Nat.le_refl _) ⟨hz, its, 0, hv, Heap.get?_push_size _ rfl⟩
theorem Inv.fresh (I : Inv X pins σ H s) : H s.heap.objs.size = none := I.hok.fresh (Nat.le_refl _)
theorem Inv.lstM (I : Inv X pins σ H s) (hH : H l = some (.lst xs)) : xs.length ≤ sizeLine ∧ ∃ (its : List Value) (n : Nat), Vals xs its ∧ xs.length = its.length ∧ s.heap.get? l = some { cls := .type "list", data := .seq its.toArray n } := by
  obtain ⟨z, its, n, r, e⟩ := I.hok l _ hH
  exact ⟨z, its, n, r, r.length, e⟩

end

section
variable {X : Cx}

/-! ### methods -/
def rAppend : V → List V → Hp → VK → Prop := fun x vs H Q => ∃ l xs y, x = .ref l ∧ vs = [y] ∧ H l = some (.lst xs) ∧ xs.length < sizeLine ∧ Q .non (upd H l (.lst (xs ++ [y])))
theorem mt_append : MtM X "list.append" rAppend := by
  intro pins s σ H x vs v us Q I rx rv h
  obtain ⟨l, xs, y, rfl, rfl, hH, hz, q⟩ := h
  cases rx
  obtain ⟨u, rfl, ru⟩ := rv.one
  obtain ⟨z, its, n, r, hl, e⟩ := I.lstM hH
  refine call_meets F.slot_list_append ⟨_, e, rfl⟩ F.entry_list_append (F.args_list_append_2 _ _) (PySem.list_append l its.toArray n u (by rw [List.size_toArray]; omega)) ⟨e, ?_⟩
  refine ⟨.non, _, I.lset (its' := its ++ [u]) hH e (by simp) (r.append (.cons ru .nil)) ?_, rfl, q⟩
  rw [List.length_append, List.length_singleton]
  omega

/-! ### list + list, list += list, list * int -/
/-! ### del xs[i] -/
end

/-! ### xs[a:b] = ys -/
section
variable {prog : Program} {w : World} {A : Around} {E : Value → Shared → Prop} {s : Shared}
set_option maxRecDepth 100000 in
end

section
variable {X : Cx}
end
end L2

namespace L2
open PySem PySem.Spec PyProof.Rows

/-! ### lists of pairs as tables -/
section
variable {κ : Type} [DecidableEq κ]
def valV (kvs : List (κ × V)) (k : κ) : Option V := (kvs.find? fun kv => decide (kv.1 = k)).map (·.2)
/-- in its place, or at the end -/
def putK (kvs : List (κ × V)) (k : κ) (v : V) : List (κ × V) :=
  if (kvs.any fun kv => decide (kv.1 = k)) = true then kvs.map (fun kv => if kv.1 = k then (kv.1, v) else kv) else kvs ++ [(k, v)]
def dropK (kvs : List (κ × V)) (k : κ) : List (κ × V) := kvs.filter fun kv => decide (kv.1 ≠ k)

theorem valV_pos {p : κ × V} {r : List (κ × V)} {k : κ} (e : p.1 = k) : valV (p :: r) k = some p.2 := by simp [valV, List.find?_cons, e]
theorem valV_neg {p : κ × V} {r : List (κ × V)} {k : κ} (e : ¬ p.1 = k) : valV (p :: r) k = valV r k := by simp [valV, List.find?_cons, e]
theorem valV_any (k : κ) : ∀ kvs : List (κ × V), (kvs.any fun kv => decide (kv.1 = k)) = (valV kvs k).isSome
  | [] => rfl
  | p :: r => by
    rw [List.any_cons]
    by_cases e : p.1 = k
    · simp only [valV_pos e, decide_eq_true e, Bool.true_or, Option.isSome_some]
    · rw [valV_neg e, decide_eq_false e, Bool.false_or]; exact valV_any k r
theorem length_putK (kvs : List (κ × V)) (k : κ) (v : V) : (putK kvs k v).length ≤ kvs.length + 1 := by
  unfold putK
  split
  · rw [List.length_map]; omega
  · rw [List.length_append, List.length_cons, List.length_nil]; omega
theorem RelO.isSome_eq {o : Option V} {u : Option Value} (r : RelO o u) : o.isSome = u.isSome := by
  cases o with
  | none => cases u with
    | none => rfl
    | some _ => exact (show False from r).elim
  | some _ => cases u with
    | none => exact (show False from r).elim
    | some _ => rfl
theorem RelO.getD {o : Option V} {u : Option Value} {d : V} {d' : Value} (r : RelO o u) (rd : RelV d d') : RelV (o.getD d) (u.getD d') := by
  cases o with
  | none => cases u with
    | none => exact rd
    | some _ => exact (show False from r).elim
  | some _ => cases u with
    | none => exact (show False from r).elim
    | some _ => exact r

/-- raw tables of the same keys -/
theorem KV.val {kvs : List (κ × V)} {vs : List (κ × Value)} (r : KV kvs vs) (k : κ) : RelO (valV kvs k) (valueAt vs k) := by
  unfold KV at r
  induction r with
  | nil => exact True.intro
  | @cons p q ps qs h t ih =>
    obtain ⟨h1, h2⟩ := h
    by_cases e : p.1 = k
    · have e' : q.1 = k := h1.symm.trans e
      have b : valueAt (q :: qs) k = some q.2 := by simp [valueAt, List.find?_cons, e']
      rw [valV_pos e, b]; exact h2
    · have e' : ¬ q.1 = k := fun z => e (h1.trans z)
      have b : valueAt (q :: qs) k = valueAt qs k := by simp [valueAt, List.find?_cons, e']
      rw [valV_neg e, b]; exact ih
theorem KV.any {kvs : List (κ × V)} {vs : List (κ × Value)} (r : KV kvs vs) (k : κ) : (kvs.any fun kv => decide (kv.1 = k)) = vs.any fun kv => decide (kv.1 = k) := by
  unfold KV at r
  induction r with
  | nil => rfl
  | cons h t ih => rw [List.any_cons, List.any_cons, ih, h.1]
theorem KV.repl {kvs : List (κ × V)} {vs : List (κ × Value)} (r : KV kvs vs) (k : κ) {y : V} {u : Value} (ry : RelV y u) :
    KV (kvs.map fun kv => if kv.1 = k then (kv.1, y) else kv) (vs.map fun kv => if kv.1 = k then (kv.1, u) else kv) := by
  unfold KV at r ⊢
  induction r with
  | nil => exact .nil
  | @cons p q ps qs h t ih =>
    rw [List.map_cons, List.map_cons]
    refine .cons ?_ ih
    obtain ⟨h1, h2⟩ := h
    by_cases e : p.1 = k
    · rw [if_pos e, if_pos (h1.symm.trans e)]; exact ⟨h1, ry⟩
    · rw [if_neg e, if_neg (fun z => e (h1.trans z))]; exact ⟨h1, h2⟩
theorem KV.put {kvs : List (κ × V)} {vs : List (κ × Value)} (r : KV kvs vs) (k : κ) {y : V} {u : Value} (ry : RelV y u) : KV (putK kvs k y) (stored vs k u) := by
  unfold putK stored
  rw [r.any k]
  by_cases e : (vs.any fun kv => decide (kv.1 = k)) = true
  · rw [if_pos e, if_pos e]; exact r.repl k ry
  · rw [if_neg e, if_neg e]; exact Paired.snoc r ⟨rfl, ry⟩
theorem KV.drop {kvs : List (κ × V)} {vs : List (κ × Value)} (r : KV kvs vs) (k : κ) : KV (dropK kvs k) (without vs k) := by
  unfold KV at r ⊢
  unfold dropK without
  induction r with
  | nil => exact .nil
  | @cons p q ps qs h t ih =>
    obtain ⟨h1, h2⟩ := h
    rw [List.filter_cons, List.filter_cons]
    by_cases e : p.1 = k
    · have a : ¬ decide (p.1 ≠ k) = true := by simp [e]
      have b : ¬ decide (q.1 ≠ k) = true := by simp [h1.symm.trans e]
      rw [if_neg a, if_neg b]; exact ih
    · have e' : ¬ q.1 = k := fun z => e (h1.trans z)
      have a : decide (p.1 ≠ k) = true := by simp [e]
      have b : decide (q.1 ≠ k) = true := by simp [e']
      rw [if_pos a, if_pos b]; exact .cons ⟨h1, h2⟩ ih
theorem KV.keys {kvs : List (κ × V)} {vs : List (κ × Value)} (r : KV kvs vs) : kvs.map (·.1) = vs.map (·.1) := by
  unfold KV at r
  induction r with
  | nil => rfl
  | cons h t ih => rw [List.map_cons, List.map_cons, ih, h.1]
theorem KV.length {kvs : List (κ × V)} {vs : List (κ × Value)} (r : KV kvs vs) : kvs.length = vs.length := Paired.length r
end


/-! ### a tracked dict, its keys ints and texts or tuples of these -/
theorem kV_is {P : Program} {w : World} {k : Key} {u : Value} (r : RelV (kV k) u) : (mixKind P w).is k u = true := by
  cases k with
  | inl i => obtain ⟨t, e⟩ := (show ∃ t, u = Value.int i t from r); subst e; exact mixKind_int P w i t
  | inr x => obtain ⟨t, e⟩ := (show ∃ t, u = Value.str x t from r); subst e; exact mixKind_str P w x t
theorem items_are {P : Program} {w : World} : ∀ {ks : List Key} {us : List Value}, Vals (ks.map kV) us → ItemsAre (mixKind P w) ks us
  | [], _, r => by rw [List.map_nil] at r; cases r; exact .nil
  | k :: ks, _, r => by
    rw [List.map_cons] at r
    cases r with
    | cons h t => exact .cons (kV_is h) (items_are t)

/-- raw entries of a dict with tuple keys -/
abbrev KT (H : Hp) : List (List Key × V) → List (List Key × Addr × Value) → Prop := Paired fun p q => p.1 = q.1 ∧ H q.2.1 = some (.tup (p.1.map kV)) ∧ RelV p.2 q.2.2
theorem KT.val {H : Hp} {kvs : List (List Key × V)} {xs : List (List Key × Addr × Value)} (r : KT H kvs xs) (k : List Key) : RelO (valV kvs k) ((atKey xs k).map (·.2)) := by
  induction r with
  | nil => exact True.intro
  | @cons p q ps qs h t ih =>
    obtain ⟨h1, _, h2⟩ := h
    by_cases e : p.1 = k
    · have e' : q.1 = k := h1.symm.trans e
      have b : atKey (q :: qs) k = some q.2 := by simp [atKey, List.find?_cons, e']
      rw [valV_pos e, b]; exact h2
    · have e' : ¬ q.1 = k := fun z => e (h1.trans z)
      have b : atKey (q :: qs) k = atKey qs k := by simp [atKey, List.find?_cons, e']
      rw [valV_neg e, b]; exact ih
theorem KT.repl {H : Hp} {kvs : List (List Key × V)} {xs : List (List Key × Addr × Value)} (r : KT H kvs xs) (k : List Key) {y : V} {u : Value} (ry : RelV y u) :
    KT H (kvs.map fun kv => if kv.1 = k then (kv.1, y) else kv) (xs.map (putAt k u)) := by
  induction r with
  | nil => exact .nil
  | @cons p q ps qs h t ih =>
    rw [List.map_cons, List.map_cons]
    refine .cons ?_ ih
    obtain ⟨h1, h2, h3⟩ := h
    unfold putAt
    by_cases e : p.1 = k
    · rw [if_pos e, if_pos (h1.symm.trans e)]; exact ⟨h1, h2, ry⟩
    · rw [if_neg e, if_neg (fun z => e (h1.trans z))]; exact ⟨h1, h2, h3⟩
theorem KT.put {H : Hp} {kvs : List (List Key × V)} {xs : List (List Key × Addr × Value)} (r : KT H kvs xs) (k : List Key) {b : Addr} {y : V} {u : Value} (hb : H b = some (.tup (k.map kV))) (ry : RelV y u) :
    KT H (putK kvs k y) (storedH xs k b u) := by
  have e : (kvs.any fun kv => decide (kv.1 = k)) = (atKey xs k).isSome := by
    rw [valV_any, (r.val k).isSome_eq, Option.isSome_map]
  unfold putK storedH
  rw [e]
  by_cases q : (atKey xs k).isSome = true
  · rw [if_pos q, if_pos q]; exact r.repl k ry
  · rw [if_neg q, if_neg q]; exact Paired.snoc r ⟨rfl, hb, ry⟩
theorem KT.keeps {H H' : Hp} {kvs : List (List Key × V)} {xs : List (List Key × Addr × Value)} (r : KT H kvs xs) (ht : ∀ b ys, H b = some (.tup ys) → H' b = some (.tup ys)) : KT H' kvs xs :=
  Paired.mapP r fun _ _ z => ⟨z.1, ht _ _ z.2.1, z.2.2⟩

section
variable {P : Program} {w : World} {H : Hp} {h : Heap} {a : Addr}
theorem rd_of {u : HO} (ok : HOk P w H h) (e : Rd H a u) : ObjOk P w H h a u := e.ok ok
theorem dk_rd {kvs : List (Key × V)} (ok : HOk P w H h) (e : Rd H a (.dK kvs)) : kvs.length ≤ sizeLine ∧ (a == sysModules) = false ∧ ∃ vs, KV kvs vs ∧ h.DictOf (mixKind P w) a vs :=
  show ObjOk P w H h a (.dK kvs) from rd_of ok e
theorem dk_of {kvs : List (Key × V)} (ok : HOk P w H h) (e : H a = some (.dK kvs)) : kvs.length ≤ sizeLine ∧ (a == sysModules) = false ∧ ∃ vs, KV kvs vs ∧ h.DictOf (mixKind P w) a vs := dk_rd ok (.inl e)
/-- a tracked tuple of ints and texts is a key -/
theorem key_of {ks : List Key} (ok : HOk P w H h) (e : H a = some (.tup (ks.map kV))) : (tupleKind (mixKind P w)).is h ks a := by
  obtain ⟨_, its, r, o, h1, h2, n, h3⟩ := (show ObjOk P w H h a (.tup (ks.map kV)) from ok a _ e)
  exact ⟨o, its.toArray, n, h1, h2, h3, by simpa using items_are r⟩
theorem dt_rd {kvs : List (List Key × V)} (ok : HOk P w H h) (e : Rd H a (.dT kvs)) : kvs.length ≤ sizeLine ∧ (a == sysModules) = false ∧
    ∃ xs, KT H kvs xs ∧ h.DictOfH (tupleKind (mixKind P w)) a xs := by
  obtain ⟨z, y, xs, r, o, es, ep, h1, h2, h3, h4, h5⟩ := (show ObjOk P w H h a (.dT kvs) from rd_of ok e)
  refine ⟨z, y, xs, r, o, es, ep, h1, h2, h3, h4, fun x hx => ?_, h5⟩
  have all : ∀ {l : List (List Key × V)} {m : List (List Key × Addr × Value)}, KT H l m → ∀ x ∈ m, (tupleKind (mixKind P w)).is h x.1 x.2.1 := by
    intro l m q
    induction q with
    | nil => intro x hx; exact nomatch hx
    | @cons p q ps qs hq t ih =>
      intro x hx
      rcases List.mem_cons.mp hx with e | hx
      · subst e
        exact key_of ok (by rw [← hq.1]; exact hq.2.1)
      · exact ih x hx
  exact all r x hx
theorem dt_of {kvs : List (List Key × V)} (ok : HOk P w H h) (e : H a = some (.dT kvs)) : kvs.length ≤ sizeLine ∧ (a == sysModules) = false ∧
    ∃ xs, KT H kvs xs ∧ h.DictOfH (tupleKind (mixKind P w)) a xs := dt_rd ok (.inl e)
end

/-- what the dict at a holds at the key y -/
def DGet (H : Hp) (a : Addr) (y : V) (r : Option V) : Prop :=
  (∃ kvs k, Rd H a (.dK kvs) ∧ y = kV k ∧ r = valV kvs k) ∨ ∃ kvs k b, Rd H a (.dT kvs) ∧ y = .ref b ∧ H b = some (.tup (k.map kV)) ∧ r = valV kvs k
/-- the heap behind a[y] = v -/
def DPut (H : Hp) (a : Addr) (y v : V) (H' : Hp) : Prop :=
  (∃ kvs k, H a = some (.dK kvs) ∧ y = kV k ∧ kvs.length < sizeLine ∧ H' = upd H a (.dK (putK kvs k v))) ∨
  ∃ kvs k b, H a = some (.dT kvs) ∧ y = .ref b ∧ H b = some (.tup (k.map kV)) ∧ kvs.length < sizeLine ∧ H' = upd H a (.dT (putK kvs k v))
theorem DGet.k {H : Hp} {a : Addr} {kvs : List (Key × V)} {k : Key} (e : H a = some (.dK kvs)) : DGet H a (kV k) (valV kvs k) := .inl ⟨kvs, k, .inl e, rfl, rfl⟩
theorem DGet.t {H : Hp} {a b : Addr} {kvs : List (List Key × V)} {k : List Key} (e : H a = some (.dT kvs)) (eb : H b = some (.tup (k.map kV))) : DGet H a (.ref b) (valV kvs k) := .inr ⟨kvs, k, b, .inl e, rfl, eb, rfl⟩
theorem DPut.k {H : Hp} {a : Addr} {kvs : List (Key × V)} {k : Key} {v : V} (e : H a = some (.dK kvs)) (hl : kvs.length < sizeLine) : DPut H a (kV k) v (upd H a (.dK (putK kvs k v))) := .inl ⟨kvs, k, e, rfl, hl, rfl⟩
theorem DPut.t {H : Hp} {a b : Addr} {kvs : List (List Key × V)} {k : List Key} {v : V} (e : H a = some (.dT kvs)) (eb : H b = some (.tup (k.map kV))) (hl : kvs.length < sizeLine) :
    DPut H a (.ref b) v (upd H a (.dT (putK kvs k v))) := .inr ⟨kvs, k, b, e, rfl, eb, hl, rfl⟩


section
variable {X : Cx} {pins : List (Addr × Obj)} {σ : St} {H : Hp} {s : Shared} {a : Addr} {y v : V} {u r : Value} {o : Option V} {A : Around} {E : Value → Shared → Prop}

theorem Inv.big (I : Inv X pins σ H s) : sysModules < s.heap.objs.size := by
  have h : mainGlobals < s.heap.objs.size := (I.mod.glob.keeps I.bk).lt
  exact Nat.lt_trans (by decide) h

/-- a dict's object is replaced -/
theorem d_write {h' : Heap} {t' : Nat} {ob : HO} (I : Inv X pins σ H s) (mu : Mut (H a)) (hs : Heap.SameBut a s.heap h') (he : ∃ q, h'.get? a = some q) (new : ObjOk X.prog X.w (upd H a ob) h' a ob) :
    Inv X pins σ (upd H a ob) { s with heap := h', toks := t' } :=
  I.write (x := a) (e := a) mu (.inl rfl) (fun b q hb z => (hs.2 b hb).trans z) he new
theorem dk_new {P : Program} {w : World} {H' : Hp} {h' : Heap} {kvs : List (Key × V)} {vs : List (Key × Value)} (z : kvs.length ≤ sizeLine) (hd : (a == sysModules) = false) (rel : KV kvs vs) (dd : h'.DictOf (mixKind P w) a vs) :
    ObjOk P w H' h' a (.dK kvs) := ⟨z, hd, vs, rel, dd⟩
/-- d[y] = v -/
theorem d_setItem {H' : Hp} {Q : Unit → Shared → Prop} (hu : A.units + 1 < cLine) (I : Inv X pins σ H s) (g : DPut H a y v H') (ry : RelV y u) (rv : RelV v r) (h : ∀ s', Inv X pins σ H' s' → Q () s') :
    wpAny (model X.prog X.w) A (setItem (.ref a) u r) Q E s := by
  rcases g with ⟨kvs, k, e, ey, l, eH⟩ | ⟨kvs, k, b, e, ey, eb, l, eH⟩
  · subst ey eH
    obtain ⟨z, hd, vs, rel, dd⟩ := dk_of I.hok e
    have hz : vs.length ≤ sizeLine := by rw [← rel.length]; exact z
    have hl : (putK kvs k v).length ≤ sizeLine := by have := length_putK kvs k v; omega
    refine wpAny_setItem_pairs (hsz := hz) (kV_is ry) dd fun h' dd' hs => h _ ?_
    have he : ∃ q, h'.get? a = some q := let ⟨q, _, _, hq, _⟩ := dd'; ⟨q, hq⟩
    exact d_write I (by rw [e]; exact True.intro) hs he (dk_new hl hd (rel.put k rv) dd')
  · subst ey eH
    cases (show u = Value.ref b from ry)
    obtain ⟨z, hd, xs, rel, dd⟩ := dt_of I.hok e
    have hz : xs.length ≤ sizeLine := by rw [← Paired.length rel]; exact z
    have hl : (putK kvs k v).length ≤ sizeLine := by have := length_putK kvs k v; omega
    refine wpAny_setItem_heap (hsz := hz) (tupleKind_room_in1 hu) (key_of I.hok eb) dd fun h' dd' hs => h _ ?_
    obtain ⟨q, es, ep, hq, h2, h3, h4, _, h5⟩ := dd'
    refine d_write I (by rw [e]; exact True.intro) hs ⟨q, hq⟩ ⟨hl, hd, _, (rel.put k eb rv).keeps fun c ys ec => ?_, q, es, ep, hq, h2, h3, h4, h5⟩
    rw [upd_ne (ne_of ec e (fun z => nomatch z))]
    exact ec
end

section
variable {X : Cx} {pins : List (Addr × Obj)} {σ : St} {H : Hp} {s : Shared} {a : Addr} {kvs : List (Key × V)} {k : Key} {u : Value} {A : Around} {E : Value → Shared → Prop}
end


/-! ### readings and rules -/
/-- d[y] = v -/
def sDPut (td ty tv : TE) : TS := fun D σ H => tv σ H fun v H1 => td σ H1 fun x H2 => ty σ H2 fun y H3 => ∃ a H4, x = .ref a ∧ DPut H3 a y v H4 ∧ D.nx σ H4
section
variable {X : Cx} {o i e value : Expr} {pos pos' tpos : Pos} {td ty tv : TE}
theorem ps_dput (hu : X.A.units + 1 < cLine) (ho : PE X o td) (hi : PE X i ty) (hv : PE X value tv) (hs : swapsWith value (some (.Subscript o i pos')) pos.line X.env = pure false) :
    PS X (.Assign [.Subscript o i pos'] value pos) (sDPut td ty tv) := by
  intro pins s σ H D I h
  refine wpAny_Assign_Subscript (thn (hv pins s σ H _ I h) fun r s1 ⟨v, H1, I1, rv, q1⟩ => thn (ho pins s1 σ H1 _ I1 q1) fun u s2 ⟨x, H2, I2, rx, q2⟩ => thn (hi pins s2 σ H2 _ I2 q2) fun iv s3 ⟨y, H3, I3, ry, a, H4, ex, g, q3⟩ => ?_) hs
  subst ex
  obtain rfl : u = Value.ref a := rx
  exact d_setItem hu I3 g ry rv fun s4 I4 => ⟨σ, H4, I4, q3⟩
end


/-! ### displays -/
theorem dt_empty {P : Program} {w : World} {H : Hp} (h : Heap) (hb : sysModules < h.objs.size) : ObjOk P w H (h.push { cls := .type "dict", data := .dict #[] }) h.objs.size (.dT []) :=
  ⟨Nat.zero_le _, beq_eq_false_iff_ne.mpr (Ne.symm (Nat.ne_of_lt hb)), [], .nil, _, #[], 0, Heap.get?_push_size _ rfl, ⟨rfl, rfl, rfl⟩, rfl, rfl, List.nodup_nil⟩
def tDNewT : TE := fun _ H Q => ∀ p, H p = none → Q (.ref p) (upd H p (.dT []))
section
variable {X : Cx} {pos : Pos}
theorem pe_dnewT : PE X (.Dict [] [] pos) tDNewT := fun pins s σ H Q I h =>
  wpAny_Dict_empty ⟨.ref s.heap.objs.size, _, I.laid (a := s.heap.objs.size) (o := .dT []) (t' := s.toks) (fun _ _ q => Heap.get?_push_of_some _ q) (Nat.le_refl _) (dt_empty s.heap I.big), rfl, h _ (I.hok.fresh (Nat.le_refl _))⟩
end

/-! ### methods -/
/-- a method call o.m(e) of a built-in, with one argument: what must be seen of the text -/
structure M1 (X : Cx) (o : Expr) (m : Str) (apos : Pos) (e : Expr) (cpos : Pos) : Prop where
  base : attributeBase o m X.env (eval o X.env) = eval o X.env
  few : ((backTo cpos (starEach [e] X.env)).all (fun x => !x.1) && (backToKw cpos (keywordEach [] X.env)).all (fun x => x.1.isSome)
    && decide (([e] : List Expr).length + ([] : List Keyword).length + (if ([] : List Keyword).isEmpty then 0 else 1) < 30)) = true
  line : (apos.endLine == cpos.line) = true
  trees : backTo cpos (starEach [e] X.env) = [(false, eval e X.env)]
structure M2 (X : Cx) (o : Expr) (m : Str) (apos : Pos) (e f : Expr) (cpos : Pos) : Prop where
  base : attributeBase o m X.env (eval o X.env) = eval o X.env
  few : ((backTo cpos (starEach [e, f] X.env)).all (fun x => !x.1) && (backToKw cpos (keywordEach [] X.env)).all (fun x => x.1.isSome)
    && decide (([e, f] : List Expr).length + ([] : List Keyword).length + (if ([] : List Keyword).isEmpty then 0 else 1) < 30)) = true
  line : (apos.endLine == cpos.line) = true
  trees : backTo cpos (starEach [e, f] X.env) = [(false, eval e X.env), (false, eval f X.env)]

section
variable {X : Cx} {pins : List (Addr × Obj)} {σ : St} {H : Hp} {s : Shared} {a : Addr} {y d : V} {u r : Value} {o : Option V} {A : Around} {E : Value → Shared → Prop}
end

section
variable {X : Cx} {o e f : Expr} {apos cpos : Pos} {td ty tx : TE}
end

/-! ### dict(d): a copy -/
section
variable {X : Cx} {pins : List (Addr × Obj)} {σ : St} {H : Hp} {s : Shared} {a : Addr} {kvs : List (Key × V)} {A : Around} {E : Value → Shared → Prop}
end


section
variable {X : Cx} {pins : List (Addr × Obj)} {σ : St} {H : Hp} {s : Shared} {a : Addr} {y : V} {u : Value} {A : Around} {E : Value → Shared → Prop}
end
end L2

namespace Att
open PySem PySem.W PySem.Calls PyProof.Rows

/-! ### the script -/
theorem ints_of_wellAll {P : Params} {h : Heap} : ∀ (ns : List Int) (vs : List Value), WellAll P h vs (ns.map WData.int) → IntsAre vs ns := by
  intro ns
  induction ns with
  | nil =>
    intro vs w
    rw [List.map_nil] at w
    cases w
    exact .nil
  | cons n ns ih =>
    intro vs w
    rw [List.map_cons] at w
    cases w with
    | cons a b =>
      cases a
      exact .cons _ _ (ih _ b)

theorem script_of {l : OpenLaw} {n : Nat} (hn : l.most = some n) {P : Params} {h : Heap} {args : List WData} {vals : List Value}
    (hpre : l.row.toRowW.claim.pre args = true) (hwl : WellAll P h vals args) :
    ∃ a vs ns, vals = [Value.ref a] ∧ args = [WData.list (ns.map WData.int)] ∧ h.get? a = some { cls := .type "list", data := .seq vs.toArray } ∧ IntsAre vs ns ∧ ns.length ≤ n := by
  have hsh : WShape.hasAll [] args [.list .int] = true := (pre_splitW hpre).1
  have hc : l.pre.holds [] { args := args } = true := (pre_splitW hpre).2
  obtain ⟨d, r, rfl, h1, h2⟩ := hasAllW_cons hsh
  obtain rfl := hasAllW_nil h2
  obtain ⟨xs, rfl, h3⟩ := hasW_list h1
  obtain ⟨ns, rfl⟩ := items_int h3
  have hlen : ns.length ≤ n := by
    unfold OpenLaw.pre at hc
    have h4 : (WTm.not (.lt (.lit (.int (n : Int))) (.len (.arg 0)))).holds [] { args := [.list (ns.map .int)] } = true := by
      have h4 := (holds_andW hc).1
      rw [hn] at h4
      exact h4
    have h5 := condW_of h4 (w_not (w_lt w_lit (w_len_list (w_arg rfl))))
    rw [List.length_map] at h5
    refine Nat.le_of_not_lt fun q => ?_
    have q' : (n : Int) < ((ns.length : Nat) : Int) := by omega
    first
      | (rw [decide_eq_true q'] at h5; exact absurd h5 (by decide))
      | (simp at h5; omega)
  cases hwl with
  | cons w1 w2 =>
    cases w2
    cases w1 with
    | list ho hall => exact ⟨_, _, ns, rfl, rfl, ho, ints_of_wellAll ns _ hall, hlen⟩

theorem post_true (l : OpenLaw) (args : List WData) : l.row.toRowW.claim.post args (.bool true) args = true :=
  postW_of (r := l.row.toRowW) (X := (true == true))
    (show WShape.has [] (.bool true) .bool = true by first | rfl | decide | simp [WShape.has, WShape.arms, WShape.armsAll])
    (show (WTm.eq .res (.lit (.bool true))).value [] { args := args, res := some (.bool true), after := args } = some (.bool (true == true)) from w_eq_bool (w_res rfl) w_lit) rfl

/-! ### the attachment: holds_open's last premise (the goal 'hc' behind k_head) from a wpAny of the law's body -/
theorem attach {l : OpenLaw} {n : Nat} {q : Program} {loose : List Str} {XP : (Str → Option Value) → Heap → Prop} {YP : World → Heap → Prop} {d : DefRec} {x : Str}
    (hn : l.most = some n) (hdf : d.params.defaults = [])
    (hbind : ∀ pm cd doc v : Value, bindArgs (docDef d.name d.params d.body d.scope pm cd doc) ⟨[v], []⟩ = pure [(x, v)])
    (hx : d.scope.names.lookup x = some .local ∨ d.scope.names.lookup x = some .cell)
    (hk : d.scope.kind = .function) (hco : d.scope.isCoroutine = false) (hgen : d.scope.isGenerator = false)
    (body : ∀ (w : World) (s₀ s₁ s : Shared) (mg mb : Str → Option Value) (fa : Addr) (o : Obj) (pm cd doc : Value) (a : Addr) (vs : List Value) (ns : List Int),
      Ground q loose [] XP w s₀ mg mb s₁.heap → YP w s₁.heap →
      s₁.heap.get? fa = some o → o.data = .func (docDef d.name d.params d.body d.scope pm cd doc) → s₁.heap.CodeRec cd d.name → mg d.name = some (.ref fa) →
      s₁.heap.get? a = some { cls := .type "list", data := .seq vs.toArray } → IntsAre vs ns → ns.length ≤ n →
      s.gens = #[] → s.os = s₁.os →
      Fr s₁.heap s₁.heap.objs.size s.heap (bindL (envOfC d.name d.scope s₁.heap.objs.size fa cd).kindOf [(x, .ref a)] fun _ => none) →
      Cl s₁.heap.objs.size (cellsFrom (s₁.heap.objs.size + 1) d.scope.names []) s.heap (bindC (envOfC d.name d.scope s₁.heap.objs.size fa cd).kindOf [(x, .ref a)] fun _ => none) →
      wpAny (model l.prog w) (callerA.deeper (envOfC d.name d.scope s₁.heap.objs.size fa cd)) (execs d.body (envOfC d.name d.scope s₁.heap.objs.size fa cd))
        (fun f s' => f = .ret (.bool true) ∧ OldK s₁.heap s'.heap ∧ s'.os = s₁.os ∧ AllBare s'.gens) (fun _ _ => False) s) :
    WalkO q loose XP YP l.row.toRowW d [] (fun f vs => PySem.call f vs) := by
  intro w s₀ s₁ mg mb G Y fa o pm cd doc dV kV ho hd hcd hD hmg hg args vals as hpre hlay hrd hwl hlo
  obtain rfl : dV = .none := Dflts.none hD hdf
  obtain rfl : kV = .none := Dflts.noKw hD
  obtain ⟨a, vs, ns, rfl, rfl, hobj, hints, hlen⟩ := script_of hn hpre hwl
  refine enter_call ?_
  refine call_cells_ret (o := o) (by rw [depth_caller]; decide) ho (fd_plain hd) G.T.nolimit hcd (hbind pm cd doc (.ref a)) (fun y hy => ?_) (fun h₁ tk F X => ?_) hco hgen hk
  · obtain rfl : y = (x, Value.ref a) := List.mem_singleton.mp hy
    rcases hx with e | e
    · exact .inl e
    · exact .inr ⟨e, cellsFrom_some _ _ _ (.inl e)⟩
  · refine wpAny_mono (body w s₀ s₁ { s₁ with heap := h₁, toks := tk } mg mb fa o pm cd doc a vs ns G Y ho (fd_plain hd) hcd hmg hobj hints hlen hg rfl F X) (fun f s' hq => ?_) (fun _ _ hq => hq)
    obtain ⟨rfl, h2, h3, h4⟩ := hq
    exact ⟨.inl ⟨.bool true, .bool true, [], rfl, fun _ => rfl, .bool true, post_true l _, fun _ => ⟨List.Pairwise.nil, fun _ hm => (nomatch hm)⟩⟩, h2, h3, h4⟩

/-- the same from a codeAny of the CALL (for a layer whose function contracts speak of calls) -/
theorem attach_call {l : OpenLaw} {n : Nat} {q : Program} {loose : List Str} {XP : (Str → Option Value) → Heap → Prop} {YP : World → Heap → Prop} {d : DefRec}
    (hn : l.most = some n) (hdf : d.params.defaults = [])
    (call : ∀ (w : World) (s₀ s₁ : Shared) (mg mb : Str → Option Value) (fa : Addr) (o : Obj) (pm cd doc : Value) (a : Addr) (vs : List Value) (ns : List Int),
      Ground q loose [] XP w s₀ mg mb s₁.heap → YP w s₁.heap →
      s₁.heap.get? fa = some o → o.data = .func (docDef d.name d.params d.body d.scope pm cd doc) → s₁.heap.CodeRec cd d.name → mg d.name = some (.ref fa) →
      s₁.heap.get? a = some { cls := .type "list", data := .seq vs.toArray } → IntsAre vs ns → ns.length ≤ n → s₁.gens = #[] →
      codeAny (model l.prog w) callerA (.call (.ref fa) ⟨[.ref a], []⟩) (fun r s' => r = .ok (.ret (.bool true)) ∧ OldK s₁.heap s'.heap ∧ s'.os = s₁.os ∧ AllBare s'.gens) s₁) :
    WalkO q loose XP YP l.row.toRowW d [] (fun f vs => PySem.call f vs) := by
  intro w s₀ s₁ mg mb G Y fa o pm cd doc dV kV ho hd hcd hD hmg hg args vals as hpre hlay hrd hwl hlo
  obtain rfl : dV = .none := Dflts.none hD hdf
  obtain rfl : kV = .none := Dflts.noKw hD
  obtain ⟨a, vs, ns, rfl, rfl, hobj, hints, hlen⟩ := script_of hn hpre hwl
  refine enter_call (codeAny_mono (call w s₀ s₁ mg mb fa o pm cd doc a vs ns G Y ho (fd_plain hd) hcd hmg hobj hints hlen hg) fun r s' hq => ?_)
  obtain ⟨rfl, h2, h3, h4⟩ := hq
  exact ⟨.inl ⟨.bool true, .bool true, [], rfl, fun _ => rfl, .bool true, post_true l _, fun _ => ⟨List.Pairwise.nil, fun _ hm => (nomatch hm)⟩⟩, h2, h3, h4⟩

/-! ### rules over ANY heap (no ledger) from facts about the written part K: the library's own take a ledger (News) for what they write -/
section
variable {prog : Program} {w : World} {A : Around} {E : Value → Shared → Prop} {s : Shared} {K : Frag}

/-! the whole heap as the ledger: makes every rule that writes through a ledger a rule over any heap -/
def ledger (h : Heap) (L d : Addr) : List (Addr × Obj) := (List.range h.objs.size).filterMap fun a => if a = L ∨ a = d then none else (h.get? a).map fun o => (a, o)
end
end Att

namespace L2
open PySem PySem.Spec PyProof.Rows

theorem vals_ints : ∀ {vs : List Value} {ns : List Int}, IntsAre vs ns → Vals (ns.map V.int) vs
  | _, _, .nil => .nil
  | _, _, .cons n t h => .cons ⟨t, rfl⟩ (vals_ints h)

/-- nothing is tracked but the script, known to the object (or it is an object of the module) -/
def Only (H : Hp) : Prop := ∀ b, H b = none ∨ ∃ o xs, H b = some (.frz o (.lst xs))

/-- THE HEAD: the law's promise, at the heap behind the top. F, the promise of the law's def, may use that base is part of the heap (so K.In base, base.Ns mainGlobals mg stand in Mod) -/
theorem law_call {P : Program} {w : World} {K : PySem.W.Frag} {mg mb : Str → Option Value} {CX : CXT} {k : Nat} {fa a : Addr} {fd : FuncData} {x : Str} {sp : Sp} {s₁ : Shared} {vs : List Value} {ns : List Int}
    (KX : K.In s₁.heap) (hns : s₁.heap.Ns mainGlobals mg) (hb : s₁.heap.Ns builtinsNs mb) (hbb : ∀ x : Str, x ≠ "__name__" → mb x = bootBuiltins x) (hlim : s₁.heap.NoLimit) (hg : s₁.gens = #[])
    (ha : s₁.heap.get? a = some { cls := .type "list", data := .seq vs.toArray }) (hi : IntsAre vs ns) (hl : ns.length ≤ sizeLine) (hr : Room k callerA)
    (F : ∀ base : Heap, K.In base → base.Ns mainGlobals mg → FnOk P w K mg base CX k fa fd [x] sp) (hbind : ∀ (s : Shared) (u : Value), BindsTo s fd ⟨[u], []⟩ [(x, u)])
    (hsp : ∀ H : Hp, Only H → SqL K H a (ns.map V.int) → sp [.ref a] H (fun v _ => v = .bl true) fun _ _ _ => False)
    (hCX : ∀ H e s', CX [] H s₁ (fun _ _ _ => False) e s' → False) :
    codeAny (model P w) callerA (.call (.ref fa) ⟨[.ref a], []⟩) (fun r s' => r = .ok (.ret (.bool true)) ∧ OldK s₁.heap s'.heap ∧ s'.os = s₁.os ∧ AllBare s'.gens) s₁ := by
  have rv := vals_ints hi
  have lenV := hi.length
  -- from an abstract heap in which nothing but the script may be tracked
  have core : ∀ H : Hp, Only H → SqL K H a (ns.map V.int) → HOk P w H s₁.heap → (∀ b, H b ≠ none → b = a) → (H a ≠ none → K.lookup a = none) →
      codeAny (model P w) callerA (.call (.ref fa) ⟨[.ref a], []⟩) (fun r s' => r = .ok (.ret (.bool true)) ∧ OldK s₁.heap s'.heap ∧ s'.os = s₁.os ∧ AllBare s'.gens) s₁ := by
    intro H hO hS hok hA hK
    have base_of : ∀ {b : Addr} {o : Obj}, s₁.heap.get? b = some o → H b = none → (hidT s₁.heap H).get? b = some o := fun e n => hidT_get e n
    have noA : ∀ {b : Addr} {o : Obj} {es : Array DictEntry} {ep : Nat}, s₁.heap.get? b = some o → o.data = .dict es ep → H b = none := fun {b o es ep} e d => by
      cases q : H b with
      | none => rfl
      | some u =>
        have e' : b = a := hA b (by rw [q]; simp)
        subst e'
        rw [ha] at e; cases e
        have d' : Data.seq vs.toArray _ = Data.dict es ep := d
        cases d'
    have nsK : ∀ {b : Addr} {m : Str → Option Value}, s₁.heap.Ns b m → (hidT s₁.heap H).Ns b m := fun {b m} ⟨o, es, ep, e, d, r⟩ => ⟨o, es, ep, base_of e (noA e d), d, r⟩
    have hKb : K.In (hidT s₁.heap H) := fun b o e => base_of (KX b o e) (by
      cases q : H b with
      | none => rfl
      | some u =>
        have e' : b = a := hA b (by rw [q]; simp)
        subst e'
        rw [hK (by rw [q]; simp)] at e; cases e)
    have hM : Mod K mg (hidT s₁.heap H) := ⟨hKb, nsK hns, ⟨mb, nsK hb, hbb⟩, let ⟨mc, h1, h2⟩ := hlim; ⟨mc, nsK h1, h2⟩⟩
    have e0 : Env0 P w K mg (hidT s₁.heap H) callerA [] s₁ H := ⟨rfl, hM, fun b o e => of_hidT e, Nat.le_of_eq (hidT_size _ _), trivial, fun b hb => absurd (show b ∈ ([] : List Addr) from hb) (by simp), hok, .of_eq hg⟩
    refine codeAny_mono ((F _ hKb (nsK hns)).run callerA [] s₁ H ⟨[.ref a], []⟩ [.ref a] [.ref a] _ _ hr e0 (hbind s₁ (.ref a)) (.cons rfl .nil) (hsp H hO hS)) fun r s' h => ?_
    cases r with
    | error e => exact (hCX H e s' h).elim
    | ok fl =>
      cases fl with
      | next => exact False.elim h
      | brk => exact False.elim h
      | cont => exact False.elim h
      | ret u =>
        obtain ⟨v, H', os, bare, un, hok', r', q⟩ := h
        have q' : v = .bl true := q
        subst q'
        obtain rfl : u = Value.bool true := r'
        refine ⟨rfl, OldK.of_keep fun b o e => ?_, os, bare⟩
        cases q : H b with
        | none => exact un.keep b o e q (by intro z; exact absurd (show b ∈ ([] : List Addr) from z) (by simp)) (by simp)
        | some u =>
          rcases hO b with z | ⟨ob, xs, z⟩
          · rw [q] at z; cases z
          · have z2 := un.frzs b ob _ z
            obtain ⟨e1, _⟩ := hok b _ z
            obtain ⟨e2, _⟩ := hok' b _ z2
            rw [e] at e1; cases e1
            exact e2
  cases hk : K.lookup a with
  | some o =>
    -- the script is one of the module's own objects
    have e := KX a o hk
    rw [ha] at e
    cases e
    refine core (fun _ => none) (fun _ => .inl rfl) (.inr ⟨_, vs.toArray, _, hk, rfl, rfl, rfl, by rw [List.size_toArray, lenV]; exact hl, by simpa using rv⟩) (fun b u z => by have z' : (none : Option HO) = some u := z; cases z') (fun b z => absurd rfl z) fun z => absurd rfl z
  | none =>
    refine core (fun b => if b = a then some (.frz { cls := .type "list", data := .seq vs.toArray } (.lst (ns.map V.int))) else none) (fun b => ?_) (.inl (.inr ⟨{ cls := .type "list", data := .seq vs.toArray }, if_pos rfl⟩)) (fun b u z => ?_) (fun b z => ?_) fun _ => hk
    · by_cases hb : b = a
      · exact .inr ⟨_, _, if_pos hb⟩
      · exact .inl (if_neg hb)
    · by_cases hb : b = a
      · have z' := (if_pos hb).symm.trans z
        cases z'
        subst hb
        exact ⟨ha, by rw [List.length_map]; exact hl, vs, _, rv, ha⟩
      · have z' := (if_neg hb).symm.trans z
        cases z'
    · by_cases hb : b = a
      · exact hb
      · exact absurd (if_neg hb) z
end L2

namespace L2
open PySem PySem.Spec PyProof.Rows

abbrev KOf {K : PySem.W.Frag} {h : Heap} (_ : K.In h) : PySem.W.Frag := K

/-- the goal that k_head leaves (case hc), from the law's promise. F gives the function object fd (K's own) once, then the promise over every base -/
theorem walk_of {l : PySem.W.OpenLaw} {n k : Nat} {q : Program} {loose : List Str} {XP : (Str → Option Value) → Heap → Prop} {YP : World → Heap → Prop} {d : DefRec} {K : Params → PySem.W.Frag} {CX : World → CXT} {sp : World → Sp} {x : Str}
    (hn : l.most = some n) (hn2 : n ≤ sizeLine) (hdf : d.params.defaults = []) (hr : Room k callerA)
    (hY : ∀ (w : World) (h : Heap), YP w h → (K w.params).In h)
    (F : ∀ (w : World) (mg : Str → Option Value) (fa : Addr) (h : Heap), (K w.params).In h → h.Ns mainGlobals mg → mg d.name = some (.ref fa) →
      ∃ fd : FuncData, (∀ (s : Shared) (u : Value), BindsTo s fd ⟨[u], []⟩ [(x, u)]) ∧
        ∀ base : Heap, (K w.params).In base → base.Ns mainGlobals mg → FnOk l.prog w (K w.params) mg base (CX w) k fa fd [x] (sp w))
    (hsp : ∀ (w : World) (H : Hp) (a : Addr) (ns : List Int), ns.length ≤ n → Only H → SqL (K w.params) H a (ns.map V.int) → sp w [.ref a] H (fun v _ => v = .bl true) fun _ _ _ => False)
    (hCX : ∀ (w : World) (H : Hp) (s : Shared) (e : Value) (s' : Shared), CX w [] H s (fun _ _ _ => False) e s' → False) :
    PySem.W.WalkO q loose XP YP l.row.toRowW d [] (fun f vs => PySem.call f vs) := by
  refine Att.attach_call hn hdf fun w s₀ s₁ mg mb fa o pm cd doc a vs ns G Y ho hd hcd hmg hobj hints hlen hg => ?_
  have KX := hY w _ Y
  obtain ⟨fd, hb, hF⟩ := F w mg fa _ KX G.T.g hmg
  exact law_call KX G.T.g G.T.b G.T.builtins G.T.nolimit hg hobj hints (Nat.le_trans hlen hn2) hr hF hb (fun H hO hS => hsp w H a ns hlen hO hS) fun H e s' => hCX w H s₁ e s'
end L2

/- THE LAST THEOREM (shape; LID, My.* are yours):
   My.Adr: a structure of the addresses that your layer names (classes, functions); My.Txt K t: a structure (Prop) of the equations over K;
   My.txt_mk : {K} {implicit addresses ..} (e1 : nsIn K mainGlobals "law" = some (some (.ref f))) (e2 : K.lookup f = some ⟨oc, od, .func (fnOf "law" "law" params body scope dV kV doc pm an cdv ct), sl⟩) (e3 : codeIn K cdv "law" = true) .. : ∃ t, My.Txt K t

set_option maxRecDepth 100000 in
set_option maxHeartbeats 0 in
theorem PySem.Challenge.cw_LID_holds : PySem.Challenge.rw_LID.Holds := by
  w_on; o_law; k_head; (case hw => w_witness2)
  k_fill
  refine L2.walk_of (l := PySem.Challenge.rw_LID) (n := 63) (k := 40) (x := "script") (CX := fun w => ..) (sp := fun _ => My.sp_law) rfl (by decide) rfl ⟨rfl, by decide, by decide⟩ (fun w h Y => PySem.W.kIn_of Y) ?F ?S ?C
  case F =>
    intro w mg fa h KX G hmg
    have T : ∃ t, My.Txt (L2.KOf KX) t := by
      dsimp only [L2.KOf]                          -- K must stand as «<heap const> w.params» for k_is
      refine' My.txt_mk ?e1 ?e2 ?e3 ..
      (case e1 => PySem.W.k_is)                    -- in the order: a name -> its address -> its object -> its parts
      (case e2 => PySem.W.k_is)
      ..
    obtain ⟨t, T⟩ := T
    have e0 := hmg.symm.trans (PySem.W.mg_of KX G T.law)
    cases e0                                       -- fa is the law's own address
    exact ⟨_, fun s u => .of_eq rfl, fun base kb nb => My.law_fn T kb nb⟩     -- if «.of_eq rfl» comes too early: refine' ⟨_, ?b, fun base kb nb => My.law_fn T kb nb⟩; exact fun s u => .of_eq rfl
  case S => exact fun w H a ns hl hO hS => ..
  case C => exact ..
(the tactic k_is has no namespace: write k_is) -/

/-! SHORT WORDS over the layer: a def of the text, its body, what a loop and a test want. -/
namespace L2
open PySem PySem.Spec PyProof.Rows

/-! ### the text by places -/
def defArgs (s : Stmt) : Arguments := match s with
  | .FunctionDef _ a _ _ _ _ _ _ _ _ => a
  | _ => { posonlyargs := [], args := [], vararg := none, kwonlyargs := [], kw_defaults := [], kwarg := none, defaults := [] }
def defBody (s : Stmt) : List Stmt := match s with
  | .FunctionDef _ _ b _ _ _ _ _ _ _ => b
  | _ => []
def defScope (s : Stmt) : Scope := match s with
  | .FunctionDef _ _ _ _ _ _ sc _ _ _ => sc
  | _ => { kind := .function, names := [], isGenerator := false, isCoroutine := false }

/-! ### no exception leaves a def -/
abbrev CX0 : CXT := fun _ _ _ _ _ _ => False
abbrev E0 : XK := fun _ _ _ => False
theorem pass0 {X : Cx} : Passes CX0 X E0 := fun _ _ _ _ _ _ _ h => h.elim

/-! ### a def (or method) of the text as it stands behind the top -/
structure Fun (K : PySem.W.Frag) (x qual : Str) (st : Stmt) (f : Addr) (fd : FuncData) : Prop where
  ex : ∃ (oc : Value) (od : Option Addr) (kV doc pm : Value) (an : Option Addr) (cdv ct : Value) (osl : Array (Option Value)),
    fd = PySem.W.fnOf x qual (defArgs st) (defBody st) (defScope st) .none kV doc pm an cdv ct ∧ K.lookup f = some ⟨oc, od, .func fd, osl⟩ ∧ PySem.W.codeIn K cdv qual = true
  kp : PySem.W.keepIn K (.ref f) = true
section
variable {P : Program} {w : World} {K : PySem.W.Frag} {mg : Str → Option Value} {base : Heap}
/-- THE RULE for a def: its body as a term of rules, and the reading of that term -/
theorem Fun.ok {x qual : Str} {st : Stmt} {f : Addr} {fd : FuncData} {N ps : List Str} {k : Nat} {sp : Sp} (F : Fun K x qual st f fd) (S : FnScope N ps (defScope st)) (len : ∀ vs H Q E, sp vs H Q E → vs.length = ps.length)
    (hbody : ∀ (cdv : Value) (A : Around) (outer : List Env) (s : Shared) (H : Hp) (vs : List V) (Q : VK) (E : XK), Room k (A.deeper (envOfC qual (defScope st) s.heap.objs.size f cdv)) → sp vs H Q E →
      ∃ t, PSs (cxOf CX0 P w K mg base N qual (defScope st) f cdv A outer s H E).nox (defBody st) t ∧ t { nx := fun _ H' => Q .non H', rt := Q } (start N vs) H) : FnOk P w K mg base CX0 (k + 1) f fd ps sp := by
  obtain ⟨oc, od, kV, doc, pm, an, cdv, ct, osl, rfl, lk, hcd⟩ := F.ex
  refine fn_of lk hcd S len fun A outer s H vs Q E hr hsp => ?_
  obtain ⟨t, h, q⟩ := hbody cdv A outer s H vs Q E hr hsp
  exact ⟨t, h.nox, q⟩
/-- how its arguments bind (no defaults): h is «fun _ _ _ _ _ _ us hl => match us, hl with | [_, _], _ => rfl», one _ a parameter -/
theorem Fun.binds {x qual : Str} {st : Stmt} {f : Addr} {fd : FuncData} {ps : List Str} (F : Fun K x qual st f fd)
    (h : ∀ (kV doc pm : Value) (an : Option Addr) (cdv ct : Value) (us : List Value), us.length = ps.length → bindArgs (PySem.W.fnOf x qual (defArgs st) (defBody st) (defScope st) .none kV doc pm an cdv ct) ⟨us, []⟩ = pure (ps.zip us)) : Binds K fd ps [] := by
  obtain ⟨oc, od, kV, doc, pm, an, cdv, ct, osl, rfl, lk, hcd⟩ := F.ex
  exact .all (h kV doc pm an cdv ct)
theorem fun_mk {x qual : Str} {st : Stmt} {f : Addr} {oc : Value} {od an : Option Addr} {osl : Array (Option Value)} {kV doc pm cdv ct : Value} (l : K.lookup f = some ⟨oc, od, .func (PySem.W.fnOf x qual (defArgs st) (defBody st) (defScope st) .none kV doc pm an cdv ct), osl⟩)
    (c : PySem.W.codeIn K cdv qual = true) (k : PySem.W.keepIn K (.ref f) = true) : Fun K x qual st f (PySem.W.fnOf x qual (defArgs st) (defBody st) (defScope st) .none kV doc pm an cdv ct) := ⟨⟨oc, od, kV, doc, pm, an, cdv, ct, osl, rfl, l, c⟩, k⟩
end
/-! ### expressions in short: the name that stands in the i-th slot -/
section
variable {X : Cx}
theorem pv (i : Nat) {x : Str} {pos : Pos} (hN : X.N[i]? = some x := by rfl) (hv : Vis X.env.scope x := by first | exact Or.inl rfl | exact Or.inr (Or.inl rfl) | exact Or.inr (Or.inr rfl)) (hd : (x == ("__debug__" : Str)) = false := by decide)
    (hcd : (x == ("__classdict__" : Str)) = false := by decide) : PE X (.Name x pos) (tVar i) := pe_var hN hv hd hcd
end

/-! ### tests -/
/-! ### heaps -/
/-- all that was tracked is as it was -/
def Same (H H' : Hp) : Prop := ∀ b o, H b = some o → H' b = some o
theorem Same.refl (H : Hp) : Same H H := fun _ _ h => h
theorem Same.trans {H H1 H2 : Hp} (a : Same H H1) (b : Same H1 H2) : Same H H2 := fun c o h => b c o (a c o h)
theorem Same.free {H H' : Hp} (e : Same H H') {l : Addr} (h : H' l = Option.none) : H l = Option.none := by
  cases q : H l with
  | none => rfl
  | some o =>
    rw [e l o q] at h
    cases h
theorem Same.seq {K : PySem.W.Frag} {H H' : Hp} {a : Addr} {xs : List V} (e : Same H H') (h : SqL K H a xs) : SqL K H' a xs := by
  rcases h with (h | ⟨o, h⟩) | h
  · exact .inl (.inl (e _ _ h))
  · exact .inl (.inr ⟨o, e _ _ h⟩)
  · exact .inr h

end L2

namespace L2
open PySem PySem.Spec PyProof.Rows
section
variable {X : Cx}
end
/-! ### a dict's pairs: keys that differ -/
section
variable {κ : Type} [DecidableEq κ]
end
end L2


set_option maxHeartbeats 4000000

namespace DL
open PySem PySem.Spec PyProof.Rows L2

/-! ### data without the heap -/
inductive D where
  | non | bl (b : Bool) | int (i : Int) | str (x : Str) | tup (ds : List D) | lst (ds : List D)

/-- an exception: its class's name, its fields -/
structure XV where
  cls : Str
  ns : List Str
  ds : List D

inductive M (α : Type) where
  | ok (a : α) | ex (x : XV) | bad
def M.bind {α β : Type} (r : M α) (k : α → M β) : M β := match r with
  | .ok a => k a
  | .ex x => .ex x
  | .bad => .bad
@[simp] theorem M.bind_ok {α β : Type} (a : α) (k : α → M β) : (M.ok a).bind k = k a := rfl
@[simp] theorem M.bind_ex {α β : Type} (x : XV) (k : α → M β) : (M.ex x : M α).bind k = .ex x := rfl
@[simp] theorem M.bind_bad {α β : Type} (k : α → M β) : (M.bad : M α).bind k = .bad := rfl

/-- a slot: data that stays; a list, a dict (keys: tuples of ints and texts; ints and texts) of our own that may still change -/
inductive S where
  | im (d : D) | ow (ds : List D) | od (kvs : List (List Key × D)) | dk (kvs : List (Key × D)) | xc (x : XV) | fn (x : Str)
def S.own : S → Bool
  | .im _ => false
  | .xc _ => false
  | .fn _ => false
  | _ => true
abbrev DSt := List (Option S)

section
variable (K : PySem.W.Frag) (H : Hp)
mutual
def Rep : D → V → Prop
  | .non, v => v = .non
  | .bl b, v => v = .bl b
  | .int i, v => v = .int i
  | .str x, v => v = .str x
  | .tup ds, v => ∃ a xs, v = .ref a ∧ H a = some (.tup xs) ∧ Reps ds xs
  | .lst ds, v => ∃ a xs, v = .ref a ∧ SqL K H a xs ∧ Reps ds xs
def Reps : List D → List V → Prop
  | [], xs => xs = []
  | d :: ds, xs => ∃ x r, xs = x :: r ∧ Rep d x ∧ Reps ds r
end
end

/-- a dict's pairs -/
def RepKV (K : PySem.W.Frag) (H : Hp) {κ : Type} : List (κ × D) → List (κ × V) → Prop := Paired fun p q => p.1 = q.1 ∧ Rep K H p.2 q.2
/-- what is owned stands at p -/
def S.at (K : PySem.W.Frag) (Hf H : Hp) (p : Addr) : S → Prop
  | .im _ => False
  | .xc _ => False
  | .fn _ => False
  | .ow ds => ∃ xs, H p = some (.lst xs) ∧ Reps K Hf ds xs
  | .od kvs => ∃ ys, H p = some (.dT ys) ∧ RepKV K Hf kvs ys
  | .dk kvs => ∃ ys, H p = some (.dK ys) ∧ RepKV K Hf kvs ys
theorem _root_.L2.Same.seqT {K : PySem.W.Frag} {H H' : Hp} {a : Addr} {xs : List V} (e : Same H H') (h : SqT K H a xs) : SqT K H' a xs := by
  rcases h with (h | ⟨o, h⟩) | h
  · exact .inl (.inl (e _ _ h))
  · exact .inl (.inr ⟨o, e _ _ h⟩)
  · exact .inr h

section
variable {K : PySem.W.Frag} {H H' : Hp}
mutual
theorem Rep.mono (e : Same H H') : ∀ {d : D} {v : V}, Rep K H d v → Rep K H' d v
  | .non, _, h => by unfold Rep at h ⊢; exact h
  | .bl _, _, h => by unfold Rep at h ⊢; exact h
  | .int _, _, h => by unfold Rep at h ⊢; exact h
  | .str _, _, h => by unfold Rep at h ⊢; exact h
  | .tup ds, _, h => by
    unfold Rep at h ⊢
    obtain ⟨a, xs, e1, e2, e3⟩ := h
    exact ⟨a, xs, e1, e _ _ e2, Reps.mono e e3⟩
  | .lst ds, _, h => by
    unfold Rep at h ⊢
    obtain ⟨a, xs, e1, e2, e3⟩ := h
    exact ⟨a, xs, e1, e.seq e2, Reps.mono e e3⟩
theorem Reps.mono (e : Same H H') : ∀ {ds : List D} {xs : List V}, Reps K H ds xs → Reps K H' ds xs
  | [], _, h => by unfold Reps at h ⊢; exact h
  | d :: ds, _, h => by
    unfold Reps at h ⊢
    obtain ⟨x, r, e1, e2, e3⟩ := h
    exact ⟨x, r, e1, Rep.mono e e2, Reps.mono e e3⟩
end
theorem rep_non {v : V} : Rep K H .non v ↔ v = .non := by unfold Rep; exact Iff.rfl
theorem rep_bl {b : Bool} {v : V} : Rep K H (.bl b) v ↔ v = .bl b := by unfold Rep; exact Iff.rfl
theorem rep_int {i : Int} {v : V} : Rep K H (.int i) v ↔ v = .int i := by unfold Rep; exact Iff.rfl
theorem rep_str {x : Str} {v : V} : Rep K H (.str x) v ↔ v = .str x := by unfold Rep; exact Iff.rfl
theorem rep_tup {ds : List D} {v : V} : Rep K H (.tup ds) v ↔ ∃ a xs, v = .ref a ∧ H a = some (.tup xs) ∧ Reps K H ds xs := by rw [Rep]
theorem rep_tupQ {ds : List D} {v : V} (h : Rep K H (.tup ds) v) : ∃ a xs, v = .ref a ∧ SqT K H a xs ∧ Reps K H ds xs := by
  obtain ⟨a, xs, e1, e2, e3⟩ := rep_tup.mp h
  exact ⟨a, xs, e1, SqT.of e2, e3⟩
theorem rep_lst {ds : List D} {v : V} : Rep K H (.lst ds) v ↔ ∃ a xs, v = .ref a ∧ SqL K H a xs ∧ Reps K H ds xs := by rw [Rep]
theorem reps_nil {xs : List V} : Reps K H [] xs ↔ xs = [] := by rw [Reps]
theorem reps_cons {d : D} {ds : List D} {xs : List V} : Reps K H (d :: ds) xs ↔ ∃ x r, xs = x :: r ∧ Rep K H d x ∧ Reps K H ds r := by rw [Reps]
theorem Reps.nil : Reps K H [] [] := reps_nil.mpr rfl
theorem Reps.cons {d : D} {ds : List D} {x : V} {xs : List V} (h : Rep K H d x) (t : Reps K H ds xs) : Reps K H (d :: ds) (x :: xs) := reps_cons.mpr ⟨x, xs, rfl, h, t⟩
theorem Reps.length : ∀ {ds : List D} {xs : List V}, Reps K H ds xs → ds.length = xs.length
  | [], _, h => by rw [reps_nil.mp h]; rfl
  | d :: ds, _, h => by
    obtain ⟨x, r, rfl, _, t⟩ := reps_cons.mp h
    rw [List.length_cons, List.length_cons, Reps.length t]
theorem Reps.get : ∀ {ds : List D} {xs : List V} {i : Nat} {d : D}, Reps K H ds xs → ds[i]? = some d → ∃ x, xs[i]? = some x ∧ Rep K H d x
  | [], _, _, _, _, e => by simp at e
  | _ :: ds, _, 0, _, h, e => by
    obtain ⟨x, r, rfl, q, t⟩ := reps_cons.mp h
    simp at e; subst e; exact ⟨x, rfl, q⟩
  | _ :: ds, _, i + 1, _, h, e => by
    obtain ⟨x, r, rfl, q, t⟩ := reps_cons.mp h
    obtain ⟨y, e1, e2⟩ := Reps.get (i := i) t (by simpa using e)
    exact ⟨y, by simpa using e1, e2⟩
theorem Reps.append : ∀ {ds es : List D} {xs ys : List V}, Reps K H ds xs → Reps K H es ys → Reps K H (ds ++ es) (xs ++ ys)
  | [], _, _, _, h, t => by rw [reps_nil.mp h]; exact t
  | _ :: ds, _, _, _, h, t => by
    obtain ⟨x, r, rfl, q, u⟩ := reps_cons.mp h
    exact .cons q (Reps.append u t)
theorem Reps.take : ∀ {ds : List D} {xs : List V} (n : Nat), Reps K H ds xs → Reps K H (ds.take n) (xs.take n)
  | _, _, 0, _ => by simpa using Reps.nil
  | [], _, n + 1, h => by rw [reps_nil.mp h]; simpa using Reps.nil
  | _ :: ds, _, n + 1, h => by
    obtain ⟨x, r, rfl, q, u⟩ := reps_cons.mp h
    exact .cons q (Reps.take n u)
theorem Reps.drop : ∀ {ds : List D} {xs : List V} (n : Nat), Reps K H ds xs → Reps K H (ds.drop n) (xs.drop n)
  | _, _, 0, h => by simpa using h
  | [], _, n + 1, h => by rw [reps_nil.mp h]; simpa using Reps.nil
  | _ :: ds, _, n + 1, h => by
    obtain ⟨x, r, rfl, q, u⟩ := reps_cons.mp h
    exact Reps.drop n u
theorem Reps.none_of {ds : List D} {xs : List V} {i : Nat} (h : Reps K H ds xs) (e : ds[i]? = none) : xs[i]? = none := by
  have := h.length
  rw [List.getElem?_eq_none_iff] at e ⊢
  lia
end

theorem RepKV.mono {K : PySem.W.Frag} {H H' : Hp} (e : Same H H') {κ : Type} {a : List (κ × D)} {b : List (κ × V)} (r : RepKV K H a b) : RepKV K H' a b := Paired.mapP r fun _ _ q => ⟨q.1, q.2.mono e⟩
theorem at_some {K : PySem.W.Frag} {Hf H : Hp} {p : Addr} {s : S} (h : S.at K Hf H p s) : ∃ o, H p = some o := by
  cases s with
  | im d => exact h.elim
  | xc x => exact h.elim
  | fn x => exact h.elim
  | ow ds => obtain ⟨xs, e, _⟩ := h; exact ⟨_, e⟩
  | od kvs => obtain ⟨ys, e, _⟩ := h; exact ⟨_, e⟩
  | dk kvs => obtain ⟨ys, e, _⟩ := h; exact ⟨_, e⟩
theorem at_move {K : PySem.W.Frag} {Hf Hf' H H' : Hp} {p : Addr} {s : S} (h : S.at K Hf H p s) (e : Same Hf Hf') (q : ∀ o, H p = some o → H' p = some o) : S.at K Hf' H' p s := by
  cases s with
  | im d => exact h.elim
  | xc x => exact h.elim
  | fn x => exact h.elim
  | ow ds => obtain ⟨xs, e1, e2⟩ := h; exact ⟨xs, q _ e1, e2.mono e⟩
  | od kvs => obtain ⟨ys, e1, e2⟩ := h; exact ⟨ys, q _ e1, e2.mono e⟩
  | dk kvs => obtain ⟨ys, e1, e2⟩ := h; exact ⟨ys, q _ e1, e2.mono e⟩

/-- an exception that was caught: its class, its dict -/
def XO (a : Addr) (C : Addr) (dx : Option Addr) : HO := .ext fun h => ∃ oe vs, h.get? a = some oe ∧ oe.cls = .ref C ∧ oe.dict = dx ∧ oe.data = .fields vs
/-- its fields -/
def XF (Hf : Hp) (ns : List Str) (xs : List V) : Option Addr → Prop
  | none => ns = [] ∧ xs = []
  | some dx => Hf dx = some (.xd (ns.zip xs)) ∧ ns.length = xs.length
theorem XF.mono {H H' : Hp} (e : Same H H') {ns : List Str} {xs : List V} : ∀ {dx : Option Addr}, XF H ns xs dx → XF H' ns xs dx
  | none, h => h
  | some _, h => ⟨e _ _ h.1, h.2⟩
def RepE (K : PySem.W.Frag) (Hf : Hp) (x : XV) (v : V) : Prop :=
  ∃ a C dx xs, v = .ref a ∧ Hf a = some (XO a C dx) ∧ PySem.W.nsIn K mainGlobals x.cls = some (some (.ref C)) ∧ XF Hf x.ns xs dx ∧ Reps K Hf x.ds xs
theorem RepE.mono {K : PySem.W.Frag} {H H' : Hp} (e : Same H H') {x : XV} {v : V} (h : RepE K H x v) : RepE K H' x v := by
  obtain ⟨a, C, dx, xs, e1, e2, e3, e4, e5⟩ := h
  exact ⟨a, C, dx, xs, e1, e _ _ e2, e3, e4.mono e, e5.mono e⟩
/-- what a slot that stays holds -/
def RepS (K : PySem.W.Frag) (Hf : Hp) : S → V → Prop
  | .im d, v => Rep K Hf d v
  | .xc x, v => RepE K Hf x v
  | .fn x, v => ∃ a, v = .ref a ∧ PySem.W.nsIn K mainGlobals x = some (some (.ref a))
  | _, _ => True
theorem RepS.mono {K : PySem.W.Frag} {H H' : Hp} (e : Same H H') {t : S} {v : V} (h : RepS K H t v) : RepS K H' t v := by
  cases t with
  | im d => exact Rep.mono e h
  | xc x => exact RepE.mono e h
  | fn x => exact h
  | _ => trivial

/-! ### what may still change -/
def Lv (H : Hp) (a : Addr) : Prop := ∃ o, H a = some o ∧ ∀ xs, o ≠ .tup xs
theorem Lv.nn {H : Hp} {a : Addr} (h : Lv H a) : H a ≠ none := by
  obtain ⟨o, e, _⟩ := h
  rw [e]; simp
theorem Lv.lst {H : Hp} {a : Addr} {xs : List V} (e : H a = some (.lst xs)) : Lv H a := ⟨_, e, fun _ q => by cases q⟩
theorem _root_.L2.Same.lv {H H' : Hp} (e : Same H H') {a : Addr} (h : Lv H a) : Lv H' a := let ⟨o, q, n⟩ := h; ⟨o, e a o q, n⟩
theorem at_lv {K : PySem.W.Frag} {Hf H : Hp} {p : Addr} {s : S} (h : S.at K Hf H p s) : Lv H p := by
  cases s with
  | im d => exact h.elim
  | xc x => exact h.elim
  | fn x => exact h.elim
  | ow ds => obtain ⟨xs, e, _⟩ := h; exact ⟨_, e, fun _ q => by cases q⟩
  | od kvs => obtain ⟨xs, e, _⟩ := h; exact ⟨_, e, fun _ q => by cases q⟩
  | dk kvs => obtain ⟨xs, e, _⟩ := h; exact ⟨_, e, fun _ q => by cases q⟩
/-! ### the heap grows: what is frozen stays frozen, what is there stays, what others own does not freeze -/
structure Gr (Hf H Hf' H' : Hp) : Prop where
  fz : Same Hf Hf'
  sub : Same Hf' H'
  all : Same H H'
  ban : ∀ a, Lv H a → Hf a = none → Hf' a = none
theorem Gr.refl {Hf H : Hp} (h : Same Hf H) : Gr Hf H Hf H := ⟨Same.refl _, h, Same.refl _, fun _ _ e => e⟩
theorem _root_.L2.Same.ne {H H' : Hp} (e : Same H H') {a : Addr} (h : H a ≠ none) : H' a ≠ none := by
  cases q : H a with
  | none => exact absurd q h
  | some o => rw [e a o q]; simp
theorem Gr.trans {Hf H Hf1 H1 Hf2 H2 : Hp} (a : Gr Hf H Hf1 H1) (b : Gr Hf1 H1 Hf2 H2) : Gr Hf H Hf2 H2 :=
  ⟨a.fz.trans b.fz, b.sub, a.all.trans b.all, fun c h e => b.ban c (a.all.lv h) (a.ban c h e)⟩
theorem same_upd {H : Hp} {p : Addr} (h : H p = none) (o : HO) : Same H (upd H p o) := fun b u q => by rw [upd_ne (ne_of_none q h)]; exact q
theorem _root_.L2.Same.upd {Hf H : Hp} (e : Same Hf H) (p : Addr) (o : HO) : Same (L2.upd Hf p o) (L2.upd H p o) := fun b u q => by
  by_cases hb : b = p
  · subst hb; rw [upd_same] at q ⊢; exact q
  · rw [upd_ne hb] at q ⊢; exact e b u q
theorem Gr.alloc {Hf H : Hp} (e : Same Hf H) {p : Addr} (h : H p = none) (o : HO) : Gr Hf H (upd Hf p o) (upd H p o) :=
  ⟨same_upd (e.free h) o, Same.upd e p o, same_upd h o, fun a ha ea => by
    have : a ≠ p := fun z => ha.nn (z ▸ h)
    rw [upd_ne this]; exact ea⟩

/-! ### the state of a def's body -/
structure SR (K : PySem.W.Frag) (H0 : Hp) (B : Addr → Prop) (Hf : Hp) (sd : DSt) (σ : L2.St) (H : Hp) : Prop where
  sub : Same Hf H
  all : Same H0 H
  ban : ∀ a, B a → Hf a = none
  bt : ∀ a, B a → Lv H0 a
  len : sd.length = σ.length
  imS : ∀ (i : Nat) (t : S), sd[i]? = some (some t) → t.own = false → ∃ v, σ[i]? = some (some v) ∧ RepS K Hf t v
  ow : ∀ (i : Nat) (t : S), sd[i]? = some (some t) → t.own = true → ∃ p, σ[i]? = some (some (.ref p)) ∧ H0 p = none ∧ Hf p = none ∧ S.at K Hf H p t
  sep : ∀ (i j : Nat) (t u : S) (p : Addr), i ≠ j → sd[i]? = some (some t) → t.own = true → sd[j]? = some (some u) → u.own = true → σ[i]? = some (some (.ref p)) → σ[j]? = some (some (.ref p)) → False

section
variable {K : PySem.W.Frag} {H0 Hf Hf' H H' : Hp} {B : Addr → Prop} {sd : DSt} {σ : L2.St}
theorem SR.im (r : SR K H0 B Hf sd σ H) : ∀ (i : Nat) (d : D), sd[i]? = some (some (.im d)) → ∃ v, σ[i]? = some (some v) ∧ Rep K Hf d v := fun i _ e => r.imS i _ e rfl
theorem SR.gr (r : SR K H0 B Hf sd σ H) (g : Gr Hf H Hf' H') : SR K H0 B Hf' sd σ H' where
  sub := g.sub
  all := r.all.trans g.all
  ban := fun a h => g.ban a (r.all.lv (r.bt a h)) (r.ban a h)
  bt := r.bt
  len := r.len
  imS := fun i d e z => let ⟨v, e1, e2⟩ := r.imS i d e z; ⟨v, e1, e2.mono g.fz⟩
  ow := fun i t e ho => by
    obtain ⟨p, e1, e2, e3, e4⟩ := r.ow i t e ho
    obtain ⟨o, eo⟩ := at_some e4
    exact ⟨p, e1, e2, g.ban p (at_lv e4) e3, at_move e4 g.fz fun o h => g.all _ _ h⟩
  sep := r.sep
theorem SR.set_st (r : SR K H0 B Hf sd σ H) (i : Nat) {d : S} {v : V} (hd : d.own = false) (h : RepS K Hf d v) : SR K H0 B Hf (sd.set i (some d)) (σ.set i (some v)) H where
  sub := r.sub
  all := r.all
  ban := r.ban
  bt := r.bt
  len := by rw [List.length_set, List.length_set]; exact r.len
  imS := fun j d' e z => by
    by_cases hj : i = j
    · subst hj
      have hi : i < sd.length := by
        have := (List.getElem?_eq_some_iff.mp e).1; simpa using this
      rw [List.getElem?_set_self hi] at e
      cases e
      exact ⟨v, by rw [List.getElem?_set_self (by rw [← r.len]; exact hi)], h⟩
    · rw [List.getElem?_set_ne hj] at e ⊢
      exact r.imS j d' e z
  ow := fun j t e ho => by
    by_cases hj : i = j
    · subst hj
      have hi : i < sd.length := by
        have := (List.getElem?_eq_some_iff.mp e).1; simpa using this
      rw [List.getElem?_set_self hi] at e
      cases e
      rw [hd] at ho; cases ho
    · rw [List.getElem?_set_ne hj] at e ⊢
      exact r.ow j t e ho
  sep := fun j k t u p hjk e1 o1 e2 o2 e3 e4 => by
    have ne : ∀ {l : Nat} {fs : S}, (sd.set i (some d))[l]? = some (some fs) → fs.own = true → i ≠ l := fun {l fs} e o z => by
      subst z
      have hi : i < sd.length := by
        have := (List.getElem?_eq_some_iff.mp e).1; simpa using this
      rw [List.getElem?_set_self hi] at e
      cases e
      rw [hd] at o; cases o
    have n1 := ne e1 o1
    have n2 := ne e2 o2
    rw [List.getElem?_set_ne n1] at e1 e3
    rw [List.getElem?_set_ne n2] at e2 e4
    exact r.sep j k t u p hjk e1 o1 e2 o2 e3 e4
theorem SR.set_im (r : SR K H0 B Hf sd σ H) (i : Nat) {d : D} {v : V} (h : Rep K Hf d v) : SR K H0 B Hf (sd.set i (some (.im d))) (σ.set i (some v)) H := r.set_st (d := .im d) i rfl h
theorem SR.set_own (r : SR K H0 B Hf sd σ H) (i : Nat) {p : Addr} {o : HO} {t : S} (hp : H p = none) (ho : t.own = true) (h : S.at K Hf (upd H p o) p t) : SR K H0 B Hf (sd.set i (some t)) (σ.set i (some (.ref p))) (upd H p o) where
  sub := r.sub.trans (same_upd hp _)
  all := r.all.trans (same_upd hp _)
  ban := r.ban
  bt := r.bt
  len := by rw [List.length_set, List.length_set]; exact r.len
  imS := fun j d' e z => by
    by_cases hj : i = j
    · subst hj
      have hi : i < sd.length := by
        have := (List.getElem?_eq_some_iff.mp e).1; simpa using this
      rw [List.getElem?_set_self hi] at e
      cases e
      rw [ho] at z; cases z
    · rw [List.getElem?_set_ne hj] at e ⊢
      exact r.imS j d' e z
  ow := fun j u e hu => by
    by_cases hj : i = j
    · subst hj
      have hi : i < sd.length := by
        have := (List.getElem?_eq_some_iff.mp e).1; simpa using this
      rw [List.getElem?_set_self hi] at e
      cases e
      exact ⟨p, by rw [List.getElem?_set_self (by rw [← r.len]; exact hi)], r.all.free hp, r.sub.free hp, h⟩
    · rw [List.getElem?_set_ne hj] at e ⊢
      obtain ⟨q, e1, e2, e3, e4⟩ := r.ow j u e hu
      exact ⟨q, e1, e2, e3, at_move e4 (Same.refl _) fun o h => same_upd hp _ _ _ h⟩
  sep := fun j k u w q hjk e1 o1 e2 o2 e3 e4 => by
    have new : ∀ {l : Nat}, i = l → (σ.set i (some (V.ref p)))[l]? = some (some (.ref q)) → q = p := fun {l} z e => by
      subst z
      have hi : i < σ.length := by
        have := (List.getElem?_eq_some_iff.mp e).1; simpa using this
      rw [List.getElem?_set_self hi] at e
      cases e; rfl
    have old : ∀ {l : Nat} {u : S}, i ≠ l → (sd.set i (some t))[l]? = some (some u) → u.own = true → (σ.set i (some (V.ref p)))[l]? = some (some (.ref q)) → q ≠ p := fun {l u} n e ou z => by
      rw [List.getElem?_set_ne n] at e z
      obtain ⟨q', e1, _, _, e4⟩ := r.ow l u e ou
      rw [z] at e1
      cases e1
      obtain ⟨o, eo⟩ := at_some e4
      exact ne_of_none eo hp
    by_cases n1 : i = j
    · have n2 : i ≠ k := fun z => hjk (n1.symm.trans z)
      exact old n2 e2 o2 e4 (new n1 e3)
    · by_cases n2 : i = k
      · exact old n1 e1 o1 e3 (new n2 e4)
      · rw [List.getElem?_set_ne n1] at e1 e3
        rw [List.getElem?_set_ne n2] at e2 e4
        exact r.sep j k u w q hjk e1 o1 e2 o2 e3 e4
/-- what slot i owns is changed -/
theorem SR.change (r : SR K H0 B Hf sd σ H) {i : Nat} {p : Addr} {o : HO} {t u : S} (ht : sd[i]? = some (some t)) (ot : t.own = true) (hi : σ[i]? = some (some (.ref p))) (ou : u.own = true) (h : S.at K Hf (upd H p o) p u) : SR K H0 B Hf (sd.set i (some u)) σ (upd H p o) := by
  obtain ⟨p', z1, z2, z3, z4⟩ := r.ow i t ht ot
  rw [hi] at z1
  cases z1
  have hl : i < sd.length := (List.getElem?_eq_some_iff.mp ht).1
  have back : ∀ {j : Nat} {w : S}, i ≠ j → (sd.set i (some u))[j]? = some (some w) → sd[j]? = some (some w) := fun {j w} n e => by rwa [List.getElem?_set_ne n] at e
  refine ⟨fun b v q => ?_, fun b v q => ?_, r.ban, r.bt, by rw [List.length_set]; exact r.len, fun j d e z => ?_, fun j w e ow => ?_, fun j k w x q hjk e1 o1 e2 o2 e3 e4 => ?_⟩
  · rw [upd_ne (ne_of_none q z3)]; exact r.sub b v q
  · rw [upd_ne (ne_of_none q z2)]; exact r.all b v q
  · by_cases n : i = j
    · subst n
      rw [List.getElem?_set_self hl] at e
      cases e
      rw [ou] at z; cases z
    · exact r.imS j d (back n e) z
  · by_cases n : i = j
    · subst n
      rw [List.getElem?_set_self hl] at e
      cases e
      exact ⟨p, hi, z2, z3, h⟩
    · obtain ⟨q, e1, e2, e3, e4⟩ := r.ow j w (back n e) ow
      refine ⟨q, e1, e2, e3, at_move e4 (Same.refl _) fun o' h' => ?_⟩
      have : q ≠ p := fun z => by
        subst z
        exact r.sep i j t w q n ht ot (back n e) ow hi e1
      rw [upd_ne this]; exact h'
  · have get : ∀ {l : Nat} {w : S}, (sd.set i (some u))[l]? = some (some w) → w.own = true → ∃ w', sd[l]? = some (some w') ∧ w'.own = true := fun {l w} e ow => by
      by_cases n : i = l
      · subst n; exact ⟨t, ht, ot⟩
      · exact ⟨w, back n e, ow⟩
    obtain ⟨w', a1, a2⟩ := get e1 o1
    obtain ⟨x', b1, b2⟩ := get e2 o2
    exact r.sep j k w' x' q hjk a1 a2 b1 b2 e3 e4
/-- what slot i owns is frozen -/
theorem SR.freeze (r : SR K H0 B Hf sd σ H) {i : Nat} {ds : List D} (ht : sd[i]? = some (some (.ow ds))) : ∃ Hf', Same Hf Hf' ∧ SR K H0 B Hf' (sd.set i (some (.im (.lst ds)))) σ H := by
  obtain ⟨p, z1, z2, z3, xs, z4, z5⟩ := r.ow i _ ht rfl
  have hl : i < sd.length := (List.getElem?_eq_some_iff.mp ht).1
  have back : ∀ {j : Nat} {w : S}, i ≠ j → (sd.set i (some (S.im (.lst ds))))[j]? = some (some w) → sd[j]? = some (some w) := fun {j w} n e => by rwa [List.getElem?_set_ne n] at e
  have sm := same_upd z3 (.lst xs)
  refine ⟨upd Hf p (.lst xs), sm, fun b v q => ?_, r.all, fun a h => ?_, r.bt, by rw [List.length_set]; exact r.len, fun j d e z => ?_, fun j w e ow => ?_, fun j k w x q hjk e1 o1 e2 o2 e3 e4 => ?_⟩
  · by_cases hb : b = p
    · subst hb; rw [upd_same] at q; rw [z4]; exact q
    · rw [upd_ne hb] at q; exact r.sub b v q
  · have : a ≠ p := fun z => (r.bt a h).nn (z ▸ z2)
    rw [upd_ne this]; exact r.ban a h
  · by_cases n : i = j
    · subst n
      rw [List.getElem?_set_self hl] at e
      cases e
      exact ⟨_, z1, (rep_lst.mpr ⟨p, xs, rfl, SqL.of upd_same, z5.mono sm⟩ : Rep K _ (.lst ds) _)⟩
    · obtain ⟨v, e1, e2⟩ := r.imS j d (back n e) z
      exact ⟨v, e1, e2.mono sm⟩
  · by_cases n : i = j
    · subst n
      rw [List.getElem?_set_self hl] at e
      cases e
      cases ow
    · obtain ⟨q, e1, e2, e3, e4⟩ := r.ow j w (back n e) ow
      refine ⟨q, e1, e2, ?_, at_move e4 sm fun o' h' => h'⟩
      have : q ≠ p := fun z => by
        subst z
        exact r.sep i j _ w q n ht rfl (back n e) ow z1 e1
      rw [upd_ne this]; exact e3
  · have ne : ∀ {l : Nat} {w : S}, (sd.set i (some (S.im (.lst ds))))[l]? = some (some w) → w.own = true → i ≠ l := fun {l w} e o z => by
      subst z
      rw [List.getElem?_set_self hl] at e
      cases e
      cases o
    exact r.sep j k w x q hjk (back (ne e1 o1) e1) o1 (back (ne e2 o2) e2) o2 e3 e4
end

/-! ### exceptions (how one lies: later) -/
def RepX (K : PySem.W.Frag) (Hf _H : Hp) (x : XV) (c : Value) (dx : Option Addr) : Prop :=
  ∃ C xs, c = .ref C ∧ PySem.W.nsIn K mainGlobals x.cls = some (some (.ref C)) ∧ XF Hf x.ns xs dx ∧ Reps K Hf x.ds xs

/-! ### what is wanted of a result -/
def Po (K : PySem.W.Frag) (E : XK) {α β : Type} (R : Hp → Hp → α → β → Prop) (Hf H : Hp) (r : M α) (Q : β → Hp → Prop) : Prop := match r with
  | .ok a => ∀ b Hf' H', Gr Hf H Hf' H' → R Hf' H' a b → Q b H'
  | .ex x => ∀ c dx Hf' H', Gr Hf H Hf' H' → RepX K Hf' H' x c dx → E c dx H'
  | .bad => False
def rV (K : PySem.W.Frag) (Hf _H : Hp) (d : D) (v : V) : Prop := Rep K Hf d v
def rA (K : PySem.W.Frag) (Hf _H : Hp) (ds : List D) (vs : List V) : Prop := Reps K Hf ds vs
def rQ {α : Type} (_Hf _H : Hp) (a b : α) : Prop := a = b

section
variable {K : PySem.W.Frag} {E : XK} {α β γ δ : Type} {R : Hp → Hp → α → β → Prop} {T : Hp → Hp → γ → δ → Prop} {Hf H Hf1 H1 : Hp}
theorem Po.weak {r : M α} {Q : β → Hp → Prop} (g : Gr Hf H Hf1 H1) (h : Po K E R Hf H r Q) : Po K E R Hf1 H1 r Q := by
  cases r with
  | ok a => exact fun b Hf' H' g' q => h b Hf' H' (g.trans g') q
  | ex x => exact fun c dx Hf' H' g' q => h c dx Hf' H' (g.trans g') q
  | bad => exact h
theorem Po.bind {r : M α} {k : α → M γ} {Q : δ → Hp → Prop} {Q1 : β → Hp → Prop} (h : Po K E T Hf H (r.bind k) Q)
    (s : ∀ a b Hf1 H1, r = .ok a → Gr Hf H Hf1 H1 → R Hf1 H1 a b → Po K E T Hf1 H1 (k a) Q → Q1 b H1) : Po K E R Hf H r Q1 := by
  cases r with
  | ok a => exact fun b Hf' H' g q => s a b Hf' H' rfl g q (Po.weak g h)
  | ex x => exact h
  | bad => exact h
theorem Po.ret {a : α} {b : β} {Q : β → Hp → Prop} (e : Same Hf H) (h : Po K E R Hf H (.ok a) Q) (q : R Hf H a b) : Q b H := h b Hf H (Gr.refl e) q
end

/-! ### the judgements -/
def PEd (X : Cx) (E : XK) (e : Expr) (f : DSt → M D) : Prop :=
  ∃ t : TE, PE X e t ∧ ∀ (H0 : Hp) (B : Addr → Prop) (Hf : Hp) (sd : DSt) (σ : L2.St) (H : Hp) (Q : VK), SR X.K H0 B Hf sd σ H → Po X.K E (rV X.K) Hf H (f sd) Q → t σ H Q
def PAd (X : Cx) (E : XK) (es : List Expr) (f : DSt → M (List D)) : Prop :=
  ∃ t : TA, PA X es t ∧ ∀ (H0 : Hp) (B : Addr → Prop) (Hf : Hp) (sd : DSt) (σ : L2.St) (H : Hp) (Q : List V → Hp → Prop), SR X.K H0 B Hf sd σ H → Po X.K E (rA X.K) Hf H (f sd) Q → t σ H Q
def PTd (X : Cx) (E : XK) (e : Expr) (f : DSt → M Bool) : Prop :=
  ∃ t : TT, PT X e t ∧ ∀ (H0 : Hp) (B : Addr → Prop) (Hf : Hp) (sd : DSt) (σ : L2.St) (H : Hp) (Q : Bool → Hp → Prop), SR X.K H0 B Hf sd σ H → Po X.K E rQ Hf H (f sd) Q → t σ H Q
def PWd (X : Cx) (E : XK) (e : Expr) (f : DSt → M Bool) : Prop :=
  ∃ t : TT, PW X e t ∧ ∀ (H0 : Hp) (B : Addr → Prop) (Hf : Hp) (sd : DSt) (σ : L2.St) (H : Hp) (Q : Bool → Hp → Prop), SR X.K H0 B Hf sd σ H → Po X.K E rQ Hf H (f sd) Q → t σ H Q
def POd (X : Cx) (E : XK) (e : Option Expr) (f : DSt → M (Option Int)) : Prop :=
  ∃ t : TO, PO X e t ∧ ∀ (H0 : Hp) (B : Addr → Prop) (Hf : Hp) (sd : DSt) (σ : L2.St) (H : Hp) (Q : Option Int → Hp → Prop), SR X.K H0 B Hf sd σ H → Po X.K E rQ Hf H (f sd) Q → t σ H Q

/-- behind a statement -/
inductive O where
  | nx (sd : DSt) | rt (s : S) | bk (sd : DSt) | ct (sd : DSt)
structure Fin' (H0 : Hp) (B : Addr → Prop) (Hf H : Hp) : Prop where
  sub : Same Hf H
  all : Same H0 H
  ban : ∀ a, B a → Hf a = none
def RS (K : PySem.W.Frag) (H0 Hf H : Hp) : S → V → Prop
  | .im d, v => Rep K Hf d v
  | .xc x, v => RepE K Hf x v
  | t, v => ∃ p, v = .ref p ∧ H0 p = none ∧ Hf p = none ∧ S.at K Hf H p t
def PoS (K : PySem.W.Frag) (E : XK) (H0 : Hp) (B : Addr → Prop) (Hf : Hp) (r : M O) (D : Ends) : Prop := match r with
  | .ok (.nx sd') => ∀ σ' Hf' H', Same Hf Hf' → SR K H0 B Hf' sd' σ' H' → D.nx σ' H'
  | .ok (.bk sd') => ∀ σ' Hf' H', Same Hf Hf' → SR K H0 B Hf' sd' σ' H' → D.bk σ' H'
  | .ok (.ct sd') => ∀ σ' Hf' H', Same Hf Hf' → SR K H0 B Hf' sd' σ' H' → D.ct σ' H'
  | .ok (.rt s) => ∀ v Hf' H', Same Hf Hf' → Fin' H0 B Hf' H' → RS K H0 Hf' H' s v → D.rt v H'
  | .ex x => ∀ c dx Hf' H', Same Hf Hf' → Fin' H0 B Hf' H' → RepX K Hf' H' x c dx → E c dx H'
  | .bad => False
theorem SR.fin {K : PySem.W.Frag} {H0 Hf H : Hp} {B : Addr → Prop} {sd : DSt} {σ : L2.St} (r : SR K H0 B Hf sd σ H) : Fin' H0 B Hf H := ⟨r.sub, r.all, r.ban⟩
def PSd (X : Cx) (E : XK) (st : Stmt) (f : DSt → M O) : Prop :=
  ∃ t : TS, PS X st t ∧ ∀ (H0 : Hp) (B : Addr → Prop) (Hf : Hp) (sd : DSt) (σ : L2.St) (H : Hp) (D : Ends), SR X.K H0 B Hf sd σ H → PoS X.K E H0 B Hf (f sd) D → t D σ H
def PSsd (X : Cx) (E : XK) (st : List Stmt) (f : DSt → M O) : Prop :=
  ∃ t : TS, PSs X st t ∧ ∀ (H0 : Hp) (B : Addr → Prop) (Hf : Hp) (sd : DSt) (σ : L2.St) (H : Hp) (D : Ends), SR X.K H0 B Hf sd σ H → PoS X.K E H0 B Hf (f sd) D → t D σ H
theorem PoS.weak {K : PySem.W.Frag} {E : XK} {H0 Hf Hf1 : Hp} {B : Addr → Prop} {r : M O} {D : Ends} (g : Same Hf Hf1) (h : PoS K E H0 B Hf r D) : PoS K E H0 B Hf1 r D := by
  cases r with
  | ok o =>
    cases o with
    | nx sd => exact fun σ' Hf' H' e q => h σ' Hf' H' (g.trans e) q
    | bk sd => exact fun σ' Hf' H' e q => h σ' Hf' H' (g.trans e) q
    | ct sd => exact fun σ' Hf' H' e q => h σ' Hf' H' (g.trans e) q
    | rt s => exact fun v Hf' H' e q => h v Hf' H' (g.trans e) q
  | ex x => exact fun c dx Hf' H' e q => h c dx Hf' H' (g.trans e) q
  | bad => exact h
/-- an expression within a statement -/
theorem PoS.bind {K : PySem.W.Frag} {E : XK} {H0 Hf H : Hp} {B : Addr → Prop} {sd : DSt} {σ : L2.St} {α β : Type} {R : Hp → Hp → α → β → Prop} {r : M α} {k : α → M O} {D : Ends} {Q1 : β → Hp → Prop} (sr : SR K H0 B Hf sd σ H) (h : PoS K E H0 B Hf (r.bind k) D)
    (s : ∀ a b Hf1 H1, r = .ok a → Gr Hf H Hf1 H1 → SR K H0 B Hf1 sd σ H1 → R Hf1 H1 a b → PoS K E H0 B Hf1 (k a) D → Q1 b H1) : Po K E R Hf H r Q1 := by
  cases r with
  | ok a => exact fun b Hf' H' g q => s a b Hf' H' rfl g (sr.gr g) q (PoS.weak g.fz h)
  | ex x => exact fun c dx Hf' H' g q => h c dx Hf' H' g.fz (sr.gr g).fin q
  | bad => exact h

/-! ### expressions -/
section
variable {X : Cx} {E : XK} {pos : Pos} {a b : Expr}
def eVar (i : Nat) (sd : DSt) : M D := match sd[i]? with
  | some (some (.im d)) => .ok d
  | _ => .bad
theorem pd_var (i : Nat) {x : Str} (hN : X.N[i]? = some x := by rfl) (hv : Vis X.env.scope x := by first | exact Or.inl rfl | exact Or.inr (Or.inl rfl) | exact Or.inr (Or.inr rfl)) (hd : (x == ("__debug__" : Str)) = false := by decide)
    (hcd : (x == ("__classdict__" : Str)) = false := by decide) : PEd X E (.Name x pos) (eVar i) := by
  refine ⟨_, pe_var hN hv hd hcd, fun H0 B Hf sd σ H Q sr h => ?_⟩
  unfold eVar at h
  split at h
  · rename_i d e
    obtain ⟨v, e1, e2⟩ := sr.im i d e
    exact ⟨v, e1, Po.ret sr.sub h e2⟩
  · exact h.elim
def eC (d : D) (_ : DSt) : M D := .ok d
theorem pd_int {i : Int} {j} : PEd X E (.Constant (.int i) j pos) (eC (.int i)) := ⟨_, pe_int, fun _ _ _ _ _ _ _ sr h => Po.ret sr.sub h (rep_int.mpr rfl)⟩
theorem pd_bl {i : Bool} {j} : PEd X E (.Constant (.bool i) j pos) (eC (.bl i)) := ⟨_, pe_bl, fun _ _ _ _ _ _ _ sr h => Po.ret sr.sub h (rep_bl.mpr rfl)⟩
/-! ### operators -/
/-- f upon data is g -/
def OpD (X : Cx) (E : XK) (f : Value → Value → Sem Value) (g : D → D → M D) : Prop :=
  ∃ r : R2, OpR X f r ∧ ∀ (Hf H : Hp) (x y : V) (dx dy : D) (Q : VK), Same Hf H → Rep X.K Hf dx x → Rep X.K Hf dy y → Po X.K E (rV X.K) Hf H (g dx dy) Q → r x y H Q
def eOp (g : D → D → M D) (fa fb : DSt → M D) (sd : DSt) : M D := (fa sd).bind fun x => (fb sd).bind fun y => g x y
theorem two {fa fb : DSt → M D} {g : D → D → M D} {ta tb : TE} {r : R2} {H0 : Hp} {B : Addr → Prop} {Hf : Hp} {sd : DSt} {σ : L2.St} {H : Hp} {Q : VK}
    (ha : ∀ (H0 : Hp) (B : Addr → Prop) (Hf : Hp) (sd : DSt) (σ : L2.St) (H : Hp) (Q : VK), SR X.K H0 B Hf sd σ H → Po X.K E (rV X.K) Hf H (fa sd) Q → ta σ H Q)
    (hb : ∀ (H0 : Hp) (B : Addr → Prop) (Hf : Hp) (sd : DSt) (σ : L2.St) (H : Hp) (Q : VK), SR X.K H0 B Hf sd σ H → Po X.K E (rV X.K) Hf H (fb sd) Q → tb σ H Q)
    (hr : ∀ (Hf H : Hp) (x y : V) (dx dy : D) (Q : VK), Same Hf H → Rep X.K Hf dx x → Rep X.K Hf dy y → Po X.K E (rV X.K) Hf H (g dx dy) Q → r x y H Q)
    (sr : SR X.K H0 B Hf sd σ H) (h : Po X.K E (rV X.K) Hf H (eOp g fa fb sd) Q) : tOp r ta tb σ H Q := by
  refine ha H0 B Hf sd σ H _ sr (Po.bind h fun dx x Hf1 H1 _ g1 rx h1 => ?_)
  have sr1 := sr.gr g1
  refine hb H0 B Hf1 sd σ H1 _ sr1 (Po.bind h1 fun dy y Hf2 H2 _ g2 ry h2 => ?_)
  exact hr Hf2 H2 x y dx dy Q g2.sub (Rep.mono g2.fz rx) ry h2
theorem pd_op {op : Operator} {g : D → D → M D} {fa fb : DSt → M D} (ho : OpD X E (binaryOp op) g) (ha : PEd X E a fa) (hb : PEd X E b fb) : PEd X E (.BinOp a op b pos) (eOp g fa fb) := by
  obtain ⟨r, hr, qr⟩ := ho
  obtain ⟨ta, pa, qa⟩ := ha
  obtain ⟨tb, pb, qb⟩ := hb
  exact ⟨_, pe_op hr pa pb, fun H0 B Hf sd σ H Q sr h => two qa qb qr sr h⟩
theorem pd_cmp {op : CmpOp} {g : D → D → M D} {fa fb : DSt → M D} (ho : OpD X E (compareOp op) g) (ha : PEd X E a fa) (hb : PEd X E b fb) (hm : behindInMarks op b = false) : PEd X E (.Compare a [op] [b] pos) (eOp g fa fb) := by
  obtain ⟨r, hr, qr⟩ := ho
  obtain ⟨ta, pa, qa⟩ := ha
  obtain ⟨tb, pb, qb⟩ := hb
  exact ⟨_, pe_cmpR hr pa pb hm, fun H0 B Hf sd σ H Q sr h => two qa qb qr sr h⟩
theorem OpD.or {f : Value → Value → Sem Value} {g g' : D → D → M D} (h : OpD X E f g) (h' : OpD X E f g') (p : D → D → Bool) : OpD X E f (fun x y => if p x y then g x y else g' x y) := by
  obtain ⟨r, hr, qr⟩ := h
  obtain ⟨r', hr', qr'⟩ := h'
  refine ⟨_, hr.or hr', fun Hf H x y dx dy Q e rx ry q => ?_⟩
  dsimp only at q
  by_cases c : p dx dy = true
  · rw [if_pos c] at q
    exact .inl (qr Hf H x y dx dy Q e rx ry q)
  · rw [if_neg c] at q
    exact .inr (qr' Hf H x y dx dy Q e rx ry q)
/-- two ints -/
def gI (c : Int → Int → Bool) (g : Int → Int → D) : D → D → M D
  | .int i, .int j => if c i j then .ok (g i j) else .bad
  | _, _ => .bad
def gI0 (g : Int → Int → D) : D → D → M D
  | .int i, .int j => .ok (g i j)
  | _, _ => .bad
theorem od_I0 {f : Value → Value → Sem Value} {gv : Int → Int → V} {gd : Int → Int → D} (h : OpR X f (rI0 gv)) (hg : ∀ i j (H : Hp), Rep X.K H (gd i j) (gv i j)) : OpD X E f (gI0 gd) := by
  refine ⟨_, h, fun Hf H x y dx dy Q e rx ry q => ?_⟩
  unfold gI0 at q
  split at q
  · rename_i i j
    exact ⟨i, j, rep_int.mp rx, rep_int.mp ry, Po.ret e q (hg i j Hf)⟩
  · exact q.elim
theorem od_I {f : Value → Value → Sem Value} {C : Int → Int → Prop} {c : Int → Int → Bool} {gv : Int → Int → V} {gd : Int → Int → D} (h : OpR X f (rI C gv)) (hc : ∀ i j, c i j = true → C i j) (hg : ∀ i j (H : Hp), Rep X.K H (gd i j) (gv i j)) : OpD X E f (gI c gd) := by
  refine ⟨_, h, fun Hf H x y dx dy Q e rx ry q => ?_⟩
  unfold gI at q
  split at q
  · rename_i i j
    split at q
    · rename_i hcc
      exact ⟨i, j, rep_int.mp rx, rep_int.mp ry, hc i j hcc, Po.ret e q (hg i j Hf)⟩
    · exact q.elim
  · exact q.elim
def gSub : D → D → M D := gI0 fun i j => .int (i - j)
def gLt : D → D → M D := gI0 fun i j => .bl (decide (i < j))
def gLe : D → D → M D := gI0 fun i j => .bl (decide (i ≤ j))
def gGt : D → D → M D := gI0 fun i j => .bl (decide (j < i))
def gGe : D → D → M D := gI0 fun i j => .bl (decide (j ≤ i))
theorem od_sub : OpD X E (binaryOp .Sub) gSub := od_I0 op_sub fun _ _ _ => rep_int.mpr rfl
theorem od_lt : OpD X E (compareOp .Lt) gLt := od_I0 op_lt fun _ _ _ => rep_bl.mpr rfl
theorem od_le : OpD X E (compareOp .LtE) gLe := od_I0 op_le fun _ _ _ => rep_bl.mpr rfl
theorem od_gt : OpD X E (compareOp .Gt) gGt := od_I0 op_gt fun _ _ _ => rep_bl.mpr rfl
theorem od_ge : OpD X E (compareOp .GtE) gGe := od_I0 op_ge fun _ _ _ => rep_bl.mpr rfl
end
end DL

set_option maxHeartbeats 4000000

namespace DL
open PySem PySem.Spec PyProof.Rows L2

/-! ### big ints -/
section
variable {X : Cx} {E : XK} {pos : Pos} {a b : Expr}
theorem bits_of {i : Int} (h : i.natAbs < 2 ^ 4000) : Builtin.Int.intBits i ≤ 2 ^ 20 := by
  unfold Builtin.Int.intBits
  split
  · exact Nat.zero_le _
  · rename_i hz
    have hn : i.natAbs ≠ 0 := fun z => hz (by rw [Int.natAbs_eq_zero.mp z]; rfl)
    have : i.natAbs.log2 < 4000 := (Nat.log2_lt hn).mpr h
    have e : (2 : Nat) ^ 20 = 1048576 := rfl
    lia
def CBig (i j : Int) : Prop := i.natAbs < 2 ^ 4000 ∧ j.natAbs < 2 ^ 4000
def CNz (_i j : Int) : Prop := j ≠ 0 ∧ j.natAbs < 2 ^ 4000
theorem log_of {j : Int} (h : j.natAbs < 2 ^ 4000) : j.natAbs.log2 < 9000 := by
  by_cases hn : j.natAbs = 0
  · rw [hn]; decide
  · have : j.natAbs.log2 < 4000 := (Nat.log2_lt hn).mpr h
    lia
theorem op_mulB : OpR X (binaryOp .Mult) (rI CBig fun i j => .int (i * j)) := opI fun _ _ _ _ _ _ _ hc q => mul_int q (IntMulOk.of_bits (bits_of hc.1) (bits_of hc.2))
theorem op_fdivB : OpR X (binaryOp .FloorDiv) (rI CNz fun i j => .int (i.fdiv j)) := opI fun _ _ _ _ _ _ _ hc q => floordiv_int hc.1 q (.inl (PyProof.noPylong_of_log2 (log_of hc.2)))
def sm (i : Int) : Bool := decide (i.natAbs < 2 ^ 4000)
theorem sm_iff {i : Int} : sm i = true ↔ i.natAbs < 2 ^ 4000 := decide_eq_true_iff
def gMul : D → D → M D := gI (fun i j => sm i && sm j) fun i j => .int (i * j)
def gFdiv : D → D → M D := gI (fun _ j => j != 0 && sm j) fun i j => .int (i.fdiv j)
def gMod : D → D → M D := gI (fun _ j => j != 0) fun i j => .int (i.fmod j)
def gPow : D → D → M D := gI (fun i j => decide (0 ≤ j ∧ j ≤ 1000 ∧ i.natAbs < 1000)) fun i j => .int (i ^ j.toNat)
theorem od_mul : OpD X E (binaryOp .Mult) gMul := od_I op_mulB (fun i j h => by
  rw [Bool.and_eq_true] at h
  exact ⟨sm_iff.mp h.1, sm_iff.mp h.2⟩) fun _ _ _ => rep_int.mpr rfl
theorem od_fdiv : OpD X E (binaryOp .FloorDiv) gFdiv := od_I op_fdivB (fun i j h => by
  rw [Bool.and_eq_true] at h
  exact ⟨by simpa using h.1, sm_iff.mp h.2⟩) fun _ _ _ => rep_int.mpr rfl
theorem od_mod : OpD X E (binaryOp .Mod) gMod := od_I op_modN (fun i j h => by simpa using h) fun _ _ _ => rep_int.mpr rfl
theorem od_pow : OpD X E (binaryOp .Pow) gPow := od_I op_pow (fun i j h => by
  have h := of_decide_eq_true h
  refine ⟨h.1, by lia, ?_⟩
  have e : (2 : Nat) ^ 64 = 18446744073709551616 := rfl
  lia) fun _ _ _ => rep_int.mpr rfl

/-! ### sequences of data -/
theorem atI_rep {K : PySem.W.Frag} {H : Hp} {ds : List D} {xs : List V} {i : Int} {d : D} (r : Reps K H ds xs) (e : atI ds i = some d) : ∃ x, atI xs i = some x ∧ Rep K H d x := by
  unfold atI at e ⊢
  rw [← r.length]
  cases q : ixN ds.length i with
  | none => rw [q] at e; cases e
  | some j =>
    rw [q] at e
    exact r.get e
def gIx : D → D → M D
  | .lst ds, .int i => match atI ds i with
    | some d => .ok d
    | none => .bad
  | .tup ds, .int i => match atI ds i with
    | some d => .ok d
    | none => .bad
  | .str z, .int i => if z.length ≤ sizeLine then (match atI z.cps.toList i with
    | some c => .ok (.str ⟨#[c]⟩)
    | none => .bad) else .bad
  | _, _ => .bad
theorem pd_ix {fa fb : DSt → M D} (ha : PEd X E a fa) (hb : PEd X E b fb) (hs : PlainIx b) : PEd X E (.Subscript a b pos) (eOp gIx fa fb) := by
  obtain ⟨ta, pa, qa⟩ := ha
  obtain ⟨tb, pb, qb⟩ := hb
  refine ⟨_, pe_ix ix_seq pa pb hs, fun H0 B Hf sd σ H Q sr h => two qa qb (fun Hf H x y dx dy Q e rx ry q => ?_) sr h⟩
  unfold gIx at q
  split at q
  · rename_i ds i
    split at q
    · rename_i d ei
      obtain ⟨p, xs, rfl, hp, hr⟩ := rep_lst.mp rx
      obtain ⟨v, e1, e2⟩ := atI_rep hr ei
      exact .inl ⟨p, xs, i, v, rfl, rep_int.mp ry, e.seq hp, e1, Po.ret e q e2⟩
    · exact q.elim
  · rename_i ds i
    split at q
    · rename_i d ei
      obtain ⟨p, xs, rfl, hp, hr⟩ := rep_tupQ rx
      obtain ⟨v, e1, e2⟩ := atI_rep hr ei
      exact .inr (.inl ⟨p, xs, i, v, rfl, rep_int.mp ry, Same.seqT e hp, e1, Po.ret e q e2⟩)
    · exact q.elim
  · rename_i z i
    split at q
    · rename_i hz
      split at q
      · rename_i c ei
        exact .inr (.inr ⟨z, i, c, rep_str.mp rx, rep_int.mp ry, hz, ei, Po.ret e q (rep_str.mpr rfl)⟩)
      · exact q.elim
    · exact q.elim
  · exact q.elim

/-! ### argument lists, displays -/
def aNil (_ : DSt) : M (List D) := .ok []
def aCons (fa : DSt → M D) (fr : DSt → M (List D)) (sd : DSt) : M (List D) := (fa sd).bind fun d => (fr sd).bind fun ds => .ok (d :: ds)
theorem pad_nil : PAd X E [] aNil := ⟨_, pa_nil, fun _ _ _ _ _ _ _ sr h => Po.ret sr.sub h Reps.nil⟩
theorem pad_cons {es : List Expr} {fa : DSt → M D} {fr : DSt → M (List D)} (ha : PEd X E a fa) (hr : PAd X E es fr) (hs : starEach (a :: es) X.env = (false, eval a X.env) :: starEach es X.env := by rfl) : PAd X E (a :: es) (aCons fa fr) := by
  obtain ⟨ta, pa, qa⟩ := ha
  obtain ⟨tr, pr, qr⟩ := hr
  refine ⟨_, pa_cons pa pr hs, fun H0 B Hf sd σ H Q sr h => ?_⟩
  refine qa H0 B Hf sd σ H _ sr (Po.bind h fun d v Hf1 H1 _ g1 rv h1 => ?_)
  refine qr H0 B Hf1 sd σ H1 _ (sr.gr g1) (Po.bind h1 fun ds vs Hf2 H2 _ g2 rs h2 => ?_)
  exact Po.ret g2.sub h2 (Reps.cons (Rep.mono g2.fz rv) rs)
def few (ds : List D) : Bool := decide (ds.length ≤ 1000000)
theorem few_line {K : PySem.W.Frag} {H : Hp} {ds : List D} {xs : List V} (h : few ds = true) (r : Reps K H ds xs) : xs.length ≤ sizeLine := by
  have := of_decide_eq_true h
  have e := sizeLine_eq
  rw [← r.length, e]
  lia
def eTup (fs : DSt → M (List D)) (sd : DSt) : M D := (fs sd).bind fun ds => if few ds then .ok (.tup ds) else .bad
def eLst (fs : DSt → M (List D)) (sd : DSt) : M D := (fs sd).bind fun ds => if few ds then .ok (.lst ds) else .bad
theorem Gr.tup {K : PySem.W.Frag} {Hf H : Hp} {p : Addr} {ds : List D} {xs : List V} (e : Same Hf H) (hp : H p = none) (r : Reps K Hf ds xs) : Rep K (upd Hf p (.tup xs)) (.tup ds) (.ref p) :=
  rep_tup.mpr ⟨p, xs, rfl, upd_same, r.mono (same_upd (e.free hp) _)⟩
theorem Gr.lst {K : PySem.W.Frag} {Hf H : Hp} {p : Addr} {ds : List D} {xs : List V} (e : Same Hf H) (hp : H p = none) (r : Reps K Hf ds xs) : Rep K (upd Hf p (.lst xs)) (.lst ds) (.ref p) :=
  rep_lst.mpr ⟨p, xs, rfl, SqL.of upd_same, r.mono (same_upd (e.free hp) _)⟩
theorem pd_tup {es : List Expr} {fs : DSt → M (List D)} {x1} (h : PAd X E es fs) : PEd X E (.Tuple es x1 pos) (eTup fs) := by
  obtain ⟨t, p, q⟩ := h
  refine ⟨_, pe_tup p, fun H0 B Hf sd σ H Q sr h => ?_⟩
  refine q H0 B Hf sd σ H _ sr (Po.bind h fun ds vs Hf1 H1 _ g1 rs h1 => ?_)
  split at h1
  · rename_i hf
    exact ⟨few_line hf rs, fun p hp => h1 _ _ _ (Gr.alloc g1.sub hp _) (Gr.tup g1.sub hp rs)⟩
  · exact h1.elim
theorem pd_lst {es : List Expr} {fs : DSt → M (List D)} (h : PAd X E es fs) : PEd X E (.List es pos) (eLst fs) := by
  obtain ⟨t, p, q⟩ := h
  refine ⟨_, pe_lst p, fun H0 B Hf sd σ H Q sr h => ?_⟩
  refine q H0 B Hf sd σ H _ sr (Po.bind h fun ds vs Hf1 H1 _ g1 rs h1 => ?_)
  split at h1
  · rename_i hf
    exact ⟨few_line hf rs, fun p hp => h1 _ _ _ (Gr.alloc g1.sub hp _) (Gr.lst g1.sub hp rs)⟩
  · exact h1.elim

/-! ### builtin functions upon data -/
def CallD (X : Cx) (E : XK) (f : Value) (g : List D → M D) : Prop :=
  ∃ r, CallR X f r ∧ ∀ (Hf H : Hp) (xs : List V) (ds : List D) (Q : VK), Same Hf H → Reps X.K Hf ds xs → Po X.K E (rV X.K) Hf H (g ds) Q → r xs H Q
def eCB (g : List D → M D) (fs : DSt → M (List D)) (sd : DSt) : M D := (fs sd).bind g
theorem pd_callB {x : Str} {id : String} {p : Pos} {g : List D → M D} {e : Expr} {es : List Expr} {fs : DSt → M (List D)} (hc : CallD X E (.builtin id) g) (hg : Gl X x) (hm : X.mg x = none) (hv : bootBuiltins x = some (.builtin id)) (ha : PAd X E (e :: es) fs)
    (hn : x ≠ "__name__" := by decide) (hdb : (x == ("__debug__" : Str)) = false := by decide)
    (he : starEach (e :: es) X.env = (false, eval e X.env) :: starEach es X.env := by rfl) (hpl : (backTo pos (starEach es X.env)).any (·.1) = false := by rfl) : PEd X E (.Call (.Name x p) (e :: es) [] pos) (eCB g fs) := by
  obtain ⟨r, hr, qr⟩ := hc
  obtain ⟨t, pt, qt⟩ := ha
  refine ⟨_, pe_callB hr hg hm hv pt hn hdb he hpl, fun H0 B Hf sd σ H Q sr h => ?_⟩
  exact qt H0 B Hf sd σ H _ sr (Po.bind h fun ds vs Hf1 H1 _ g1 rs h1 => qr Hf1 H1 vs ds Q g1.sub rs h1)
theorem pd_callT {x : Str} {T : String} {p : Pos} {g : List D → M D} {e : Expr} {es : List Expr} {fs : DSt → M (List D)} (hc : CallD X E (.type T) g) (hg : Gl X x) (hm : X.mg x = none) (hv : bootBuiltins x = some (.type T)) (ha : PAd X E (e :: es) fs)
    (hn : x ≠ "__name__" := by decide) (hdb : (x == ("__debug__" : Str)) = false := by decide)
    (he : starEach (e :: es) X.env = (false, eval e X.env) :: starEach es X.env := by rfl) (hpl : (backTo pos (starEach es X.env)).any (·.1) = false := by rfl) : PEd X E (.Call (.Name x p) (e :: es) [] pos) (eCB g fs) := by
  obtain ⟨r, hr, qr⟩ := hc
  obtain ⟨t, pt, qt⟩ := ha
  refine ⟨_, pe_callTy hr hg hm hv pt hn hdb he hpl, fun H0 B Hf sd σ H Q sr h => ?_⟩
  exact qt H0 B Hf sd σ H _ sr (Po.bind h fun ds vs Hf1 H1 _ g1 rs h1 => qr Hf1 H1 vs ds Q g1.sub rs h1)
theorem reps1 {K : PySem.W.Frag} {H : Hp} {d : D} {xs : List V} (r : Reps K H [d] xs) : ∃ x, xs = [x] ∧ Rep K H d x := by
  obtain ⟨x, t, rfl, h, r2⟩ := reps_cons.mp r
  rw [reps_nil.mp r2]; exact ⟨x, rfl, h⟩
theorem reps2 {K : PySem.W.Frag} {H : Hp} {d e : D} {xs : List V} (r : Reps K H [d, e] xs) : ∃ x y, xs = [x, y] ∧ Rep K H d x ∧ Rep K H e y := by
  obtain ⟨x, t, rfl, h, r2⟩ := reps_cons.mp r
  obtain ⟨y, rfl, h2⟩ := reps1 r2
  exact ⟨x, y, rfl, h, h2⟩
def bAbs : List D → M D
  | [.int i] => .ok (.int (if i < 0 then -i else i))
  | _ => .bad
theorem cd_abs : CallD X E (.builtin "abs") bAbs := by
  refine ⟨_, call_abs, fun Hf H xs ds Q e r q => ?_⟩
  unfold bAbs at q
  split at q
  · obtain ⟨x, rfl, h⟩ := reps1 r
    rw [rep_int.mp h]
    exact ⟨_, rfl, Po.ret e q (rep_int.mpr rfl)⟩
  · exact q.elim
def bInt : List D → M D
  | [.int i] => .ok (.int i)
  | [.bl b] => .ok (.int (if b then 1 else 0))
  | _ => .bad
theorem cd_int : CallD X E (.type "int") bInt := by
  refine ⟨_, call_int1, fun Hf H xs ds Q e r q => ?_⟩
  unfold bInt at q
  split at q
  · obtain ⟨x, rfl, h⟩ := reps1 r
    rw [rep_int.mp h]
    exact .inl ⟨_, rfl, Po.ret e q (rep_int.mpr rfl)⟩
  · obtain ⟨x, rfl, h⟩ := reps1 r
    rw [rep_bl.mp h]
    exact .inr ⟨_, rfl, Po.ret e q (rep_int.mpr rfl)⟩
  · exact q.elim
def bLen : List D → M D
  | [.lst ds] => .ok (.int ds.length)
  | [.tup ds] => .ok (.int ds.length)
  | [.str z] => if z.length ≤ sizeLine then .ok (.int z.length) else .bad
  | _ => .bad
theorem cd_len : CallD X E (.builtin "len") bLen := by
  refine ⟨_, call_len_seq.or call_len_str, fun Hf H xs ds Q e r q => ?_⟩
  unfold bLen at q
  split at q
  · obtain ⟨x, rfl, h⟩ := reps1 r
    obtain ⟨p, ys, rfl, hp, hr⟩ := rep_lst.mp h
    refine .inl ⟨p, ys, rfl, .inl (e.seq hp), ?_⟩
    rw [← hr.length]
    exact Po.ret e q (rep_int.mpr rfl)
  · obtain ⟨x, rfl, h⟩ := reps1 r
    obtain ⟨p, ys, rfl, hp, hr⟩ := rep_tupQ h
    refine .inl ⟨p, ys, rfl, .inr (Same.seqT e hp), ?_⟩
    rw [← hr.length]
    exact Po.ret e q (rep_int.mpr rfl)
  · split at q
    · rename_i hz
      obtain ⟨x, rfl, h⟩ := reps1 r
      rw [rep_str.mp h]
      exact .inr ⟨_, rfl, hz, Po.ret e q (rep_int.mpr rfl)⟩
    · exact q.elim
  · exact q.elim
def bList : List D → M D
  | [.lst ds] => .ok (.lst ds)
  | [.tup ds] => .ok (.lst ds)
  | _ => .bad
theorem cd_list : CallD X E (.type "list") bList := by
  refine ⟨_, call_list_of, fun Hf H xs ds Q e r q => ?_⟩
  unfold bList at q
  split at q
  · obtain ⟨x, rfl, h⟩ := reps1 r
    obtain ⟨p, ys, rfl, hp, hr⟩ := rep_lst.mp h
    exact ⟨p, ys, rfl, .inl (e.seq hp), fun l hl => q _ _ _ (Gr.alloc e hl _) (Gr.lst e hl hr)⟩
  · obtain ⟨x, rfl, h⟩ := reps1 r
    obtain ⟨p, ys, rfl, hp, hr⟩ := rep_tupQ h
    exact ⟨p, ys, rfl, .inr (Same.seqT e hp), fun l hl => q _ _ _ (Gr.alloc e hl _) (Gr.lst e hl hr)⟩
  · exact q.elim
/-! ### tests -/
def asB : D → M Bool
  | .bl b => .ok b
  | _ => .bad
def tB (f : DSt → M D) (sd : DSt) : M Bool := (f sd).bind asB
def tN (f : DSt → M Bool) (sd : DSt) : M Bool := (f sd).bind fun b => .ok (!b)
def tA (f g : DSt → M Bool) (sd : DSt) : M Bool := (f sd).bind fun b => if b then g sd else .ok false
def tO (f g : DSt → M Bool) (sd : DSt) : M Bool := (f sd).bind fun b => if b then .ok true else g sd
theorem ptd_val {e : Expr} {f : DSt → M D} (h : PEd X E e f) (he : ∀ whole, isTrue e X.env whole = (do let v ← whole; standAt e.pos; holding [v] (truthy v)) := by intro _; rfl) : PTd X E e (tB f) := by
  obtain ⟨t, p, q⟩ := h
  refine ⟨_, pt_val p he, fun H0 B Hf sd σ H Q sr h => ?_⟩
  refine q H0 B Hf sd σ H _ sr (Po.bind h fun d v Hf1 H1 _ g1 rv h1 => ?_)
  unfold asB at h1
  split at h1
  · exact ⟨_, rep_bl.mp rv, Po.ret (R := rQ) g1.sub h1 rfl⟩
  · exact h1.elim
theorem ptd_cmp {op : CmpOp} {g : D → D → M D} {fa fb : DSt → M D} (ho : OpD X E (compareOp op) g) (ha : PEd X E a fa) (hb : PEd X E b fb) (hm : behindInMarks op b = false) : PTd X E (.Compare a [op] [b] pos) (tB (eOp g fa fb)) := by
  obtain ⟨r, hr, qr⟩ := ho
  obtain ⟨ta, pa, qa⟩ := ha
  obtain ⟨tb, pb, qb⟩ := hb
  refine ⟨_, pt_cmpR hr pa pb hm, fun H0 B Hf sd σ H Q sr h => ?_⟩
  refine two qa qb qr sr (Po.bind h fun d v Hf1 H1 _ g1 rv h1 => ?_)
  unfold asB at h1
  split at h1
  · exact ⟨_, rep_bl.mp rv, Po.ret (R := rQ) g1.sub h1 rfl⟩
  · exact h1.elim
theorem ptd_not {f : DSt → M Bool} (h : PTd X E a f) : PTd X E (.UnaryOp .Not a pos) (tN f) := by
  obtain ⟨t, p, q⟩ := h
  refine ⟨_, pt_not p, fun H0 B Hf sd σ H Q sr h => ?_⟩
  refine q H0 B Hf sd σ H _ sr (Po.bind h fun b v Hf1 H1 _ g1 rv h1 => ?_)
  have e : b = v := rv
  subst e
  exact Po.ret (R := rQ) g1.sub h1 rfl
theorem PWd.pt {f : DSt → M Bool} {e : Expr} (h : PWd X E e f) : PTd X E e f := by
  obtain ⟨t, p, q⟩ := h
  exact ⟨t, p.pt, q⟩
theorem pwd_and1 {f : DSt → M Bool} (h : PTd X E a f) : PWd X E (.BoolOp .And [a] pos) f := by
  obtain ⟨t, p, q⟩ := h
  exact ⟨t, pw_and1 p, q⟩
theorem pwd_or1 {f : DSt → M Bool} (h : PTd X E a f) : PWd X E (.BoolOp .Or [a] pos) f := by
  obtain ⟨t, p, q⟩ := h
  exact ⟨t, pw_or1 p, q⟩
theorem pwd_and {rest : List Expr} {f g : DSt → M Bool} (h : PTd X E a f) (h2 : PWd X E (.BoolOp .And (b :: rest) pos) g) : PWd X E (.BoolOp .And (a :: b :: rest) pos) (tA f g) := by
  obtain ⟨t, p, q⟩ := h
  obtain ⟨t2, p2, q2⟩ := h2
  refine ⟨_, pw_and p p2, fun H0 B Hf sd σ H Q sr h => ?_⟩
  refine q H0 B Hf sd σ H _ sr (Po.bind h fun b v Hf1 H1 _ g1 rv h1 => ?_)
  have e : b = v := rv
  subst e
  cases b with
  | true => rw [if_pos rfl] at h1 ⊢; exact q2 H0 B Hf1 sd σ H1 Q (sr.gr g1) h1
  | false => rw [if_neg Bool.false_ne_true] at h1 ⊢; exact Po.ret (R := rQ) g1.sub h1 rfl
theorem pwd_or {rest : List Expr} {f g : DSt → M Bool} (h : PTd X E a f) (h2 : PWd X E (.BoolOp .Or (b :: rest) pos) g) : PWd X E (.BoolOp .Or (a :: b :: rest) pos) (tO f g) := by
  obtain ⟨t, p, q⟩ := h
  obtain ⟨t2, p2, q2⟩ := h2
  refine ⟨_, pw_or p p2, fun H0 B Hf sd σ H Q sr h => ?_⟩
  refine q H0 B Hf sd σ H _ sr (Po.bind h fun b v Hf1 H1 _ g1 rv h1 => ?_)
  have e : b = v := rv
  subst e
  cases b with
  | true => rw [if_pos rfl] at h1 ⊢; exact Po.ret (R := rQ) g1.sub h1 rfl
  | false => rw [if_neg Bool.false_ne_true] at h1 ⊢; exact q2 H0 B Hf1 sd σ H1 Q (sr.gr g1) h1
/-! values: and, or, not, x if c else y -/
def eAnd (f g : DSt → M D) (sd : DSt) : M D := (f sd).bind fun d => (asB d).bind fun b => if b then g sd else .ok (.bl false)
def eNot (f : DSt → M D) (sd : DSt) : M D := (f sd).bind fun d => (asB d).bind fun b => .ok (.bl (!b))
theorem pd_one {op} {f : DSt → M D} (h : PEd X E a f) : PEd X E (.BoolOp op [a] pos) f := by
  obtain ⟨t, p, q⟩ := h
  exact ⟨t, pe_one p, q⟩
theorem asB_ok {d : D} {b : Bool} (h : asB d = .ok b) : d = .bl b := by
  unfold asB at h
  split at h
  · cases h; rfl
  · cases h
theorem asB_noex {d : D} {x : XV} (h : asB d = .ex x) : False := by
  unfold asB at h
  split at h <;> cases h
theorem Po.asB {K : PySem.W.Frag} {α β : Type} {R : Hp → Hp → α → β → Prop} {Hf H : Hp} {d : D} {k : Bool → M α} {Q : β → Hp → Prop} (h : Po K E R Hf H ((asB d).bind k) Q) : ∃ b, d = .bl b ∧ Po K E R Hf H (k b) Q := by
  cases q : DL.asB d with
  | ok b => rw [q] at h; exact ⟨b, asB_ok q, h⟩
  | ex x => exact (asB_noex q).elim
  | bad => rw [q] at h; exact h.elim
theorem pd_and {rest : List Expr} {f g : DSt → M D} (h : PEd X E a f) (h2 : PEd X E (.BoolOp .And (b :: rest) pos) g) : PEd X E (.BoolOp .And (a :: b :: rest) pos) (eAnd f g) := by
  obtain ⟨t, p, q⟩ := h
  obtain ⟨t2, p2, q2⟩ := h2
  refine ⟨_, pe_and p p2, fun H0 B Hf sd σ H Q sr h => ?_⟩
  refine q H0 B Hf sd σ H _ sr (Po.bind h fun d v Hf1 H1 _ g1 rv h1 => ?_)
  obtain ⟨c, rfl, h2⟩ := Po.asB h1
  refine ⟨c, rep_bl.mp rv, ?_⟩
  cases c with
  | true => rw [if_pos rfl] at h2 ⊢; exact q2 H0 B Hf1 sd σ H1 Q (sr.gr g1) h2
  | false => rw [if_neg Bool.false_ne_true] at h2 ⊢; exact Po.ret (R := rV X.K) g1.sub h2 (rep_bl.mpr rfl)
theorem pd_not {f : DSt → M D} (h : PEd X E a f) : PEd X E (.UnaryOp .Not a pos) (eNot f) := by
  obtain ⟨t, p, q⟩ := h
  refine ⟨_, pe_not p, fun H0 B Hf sd σ H Q sr h => ?_⟩
  refine q H0 B Hf sd σ H _ sr (Po.bind h fun d v Hf1 H1 _ g1 rv h1 => ?_)
  obtain ⟨c, rfl, h2⟩ := Po.asB h1
  exact ⟨c, rep_bl.mp rv, Po.ret (R := rV X.K) g1.sub h2 (rep_bl.mpr rfl)⟩
end

/-! ### statements -/
section
variable {X : Cx} {E : XK} {pos : Pos} {a b : Expr}
def sNil (sd : DSt) : M O := .ok (.nx sd)
def sSeq (f g : DSt → M O) (sd : DSt) : M O := (f sd).bind fun o => match o with
  | .nx sd' => g sd'
  | o => .ok o
theorem psd_nil : PSsd X E [] sNil := ⟨_, pss_nil, fun _ _ Hf _ _ _ _ sr h => h _ Hf _ (Same.refl _) sr⟩
theorem psd_one {st : Stmt} {f : DSt → M O} (h : PSd X E st f) : PSsd X E [st] f := by
  obtain ⟨t, p, q⟩ := h
  exact ⟨t, pss_one p, q⟩
theorem psd_cons {st : Stmt} {rest : List Stmt} {f g : DSt → M O} (h : PSd X E st f) (h2 : PSsd X E rest g) : PSsd X E (st :: rest) (sSeq f g) := by
  obtain ⟨t, p, q⟩ := h
  obtain ⟨t2, p2, q2⟩ := h2
  refine ⟨_, pss_cons p p2, fun H0 B Hf sd σ H D sr h => ?_⟩
  refine q H0 B Hf sd σ H _ sr ?_
  unfold sSeq at h
  cases e : f sd with
  | ok o =>
    rw [e] at h
    cases o with
    | nx sd' => exact fun σ' Hf' H' e' sr' => q2 H0 B Hf' sd' σ' H' D sr' (PoS.weak e' h)
    | rt s => exact h
    | bk sd' => exact h
    | ct sd' => exact h
  | ex x => rw [e] at h; exact h
  | bad => rw [e] at h; exact h
def sSet (i : Nat) (f : DSt → M D) (sd : DSt) : M O := (f sd).bind fun d => .ok (.nx (sd.set i (some (.im d))))
theorem psd_set (i : Nat) {x : Str} {e : Expr} {f : DSt → M D} {pos' : Pos} (hN : X.N.Nodup) (h : PEd X E e f) (hi : X.N[i]? = some x := by rfl) (hx : Loc X.env.scope x := by first | exact Or.inl rfl | exact Or.inr rfl)
    (hs : swapsWith e (some (.Name x pos')) pos.line X.env = pure false := by rfl) (hf : X.fn x = true ∨ X.env.scope.names.lookup x = some .local := by first | exact .inl rfl | exact .inr rfl | assumption) :
    PSd X E (.Assign [.Name x pos'] e pos) (sSet i f) := by
  obtain ⟨t, p, q⟩ := h
  refine ⟨_, ps_set hN hi hx p hs hf, fun H0 B Hf sd σ H D sr h => ?_⟩
  refine q H0 B Hf sd σ H _ sr (PoS.bind sr h fun d v Hf1 H1 _ g1 sr1 rv h1 => ?_)
  exact h1 _ Hf1 H1 (Same.refl _) (sr1.set_im i rv)
def sRet (f : DSt → M D) (sd : DSt) : M O := (f sd).bind fun d => .ok (.rt (.im d))
theorem psd_ret {e : Expr} {f : DSt → M D} (h : PEd X E e f) : PSd X E (.Return (some e) pos) (sRet f) := by
  obtain ⟨t, p, q⟩ := h
  refine ⟨_, ps_ret p, fun H0 B Hf sd σ H D sr h => ?_⟩
  refine q H0 B Hf sd σ H _ sr (PoS.bind sr h fun d v Hf1 H1 _ g1 sr1 rv h1 => ?_)
  exact h1 v Hf1 H1 (Same.refl _) sr1.fin rv
def sIf (c : DSt → M Bool) (f g : DSt → M O) (sd : DSt) : M O := (c sd).bind fun b => if b then f sd else g sd
theorem psd_if {c : Expr} {xs ys : List Stmt} {k : DSt → M Bool} {f g : DSt → M O} (hc : PTd X E c k) (h : PSsd X E xs f) (h2 : PSsd X E ys g) : PSd X E (.If c xs ys pos) (sIf k f g) := by
  obtain ⟨t, p, q⟩ := hc
  obtain ⟨t1, p1, q1⟩ := h
  obtain ⟨t2, p2, q2⟩ := h2
  refine ⟨_, ps_if p p1 p2, fun H0 B Hf sd σ H D sr h => ?_⟩
  refine q H0 B Hf sd σ H _ sr (PoS.bind (R := rQ) sr h fun c v Hf1 H1 _ g1 sr1 rv h1 => ?_)
  have e : c = v := rv
  subst e
  cases c with
  | true => rw [if_pos rfl] at h1 ⊢; exact q1 H0 B Hf1 sd σ H1 D sr1 h1
  | false => rw [if_neg Bool.false_ne_true] at h1 ⊢; exact q2 H0 B Hf1 sd σ H1 D sr1 h1

/-! ### while, by the number of turns -/
def whileD (c : DSt → M Bool) (f : DSt → M O) : Nat → DSt → M O
  | 0, _ => .bad
  | n + 1, sd => (c sd).bind fun b => if b then ((f sd).bind fun o => match o with
      | .nx sd' => whileD c f n sd'
      | .ct sd' => whileD c f n sd'
      | .bk sd' => .ok (.nx sd')
      | .rt s => .ok (.rt s)) else .ok (.nx sd)
open Classical in
noncomputable def sWhile (c : DSt → M Bool) (f : DSt → M O) (sd : DSt) : M O := if h : ∃ n, whileD c f n sd ≠ .bad then whileD c f (choose h) sd else .bad
theorem whileD_mono (c : DSt → M Bool) (f : DSt → M O) : ∀ (n m : Nat) (sd : DSt), n ≤ m → whileD c f n sd ≠ .bad → whileD c f m sd = whileD c f n sd
  | 0, _, _, _, h => absurd rfl h
  | n + 1, 0, _, hm, _ => absurd hm (by lia)
  | n + 1, m + 1, sd, hm, h => by
    unfold whileD at h ⊢
    cases e : c sd with
    | ok b =>
      rw [e] at h
      simp only [M.bind_ok] at h ⊢
      cases b with
      | false => rfl
      | true =>
        simp only [if_true] at h ⊢
        cases e2 : f sd with
        | ok o =>
          rw [e2] at h
          simp only [M.bind_ok] at h ⊢
          cases o with
          | nx sd' => exact whileD_mono c f n m sd' (by lia) h
          | ct sd' => exact whileD_mono c f n m sd' (by lia) h
          | bk sd' => rfl
          | rt s => rfl
        | ex x => rfl
        | bad => rfl
    | ex x => rfl
    | bad => rfl
theorem sWhile_eq {c : DSt → M Bool} {f : DSt → M O} {n : Nat} {sd : DSt} (h : whileD c f n sd ≠ .bad) : sWhile c f sd = whileD c f n sd := by
  unfold sWhile
  have hx : ∃ n, whileD c f n sd ≠ .bad := ⟨n, h⟩
  rw [dif_pos hx]
  have h2 := Classical.choose_spec hx
  rcases Nat.le_total n (Classical.choose hx) with l | l
  · exact whileD_mono c f _ _ sd l h
  · exact (whileD_mono c f _ _ sd l h2).symm
theorem psd_while {c : Expr} {body : List Stmt} {k : DSt → M Bool} {f : DSt → M O} (hp : PassesOwn (model X.prog X.w) X.A X.env X.xe) (hc : PTd X E c k) (h : PSsd X E body f) : PSd X E (.While c body [] pos) (sWhile k f) := by
  obtain ⟨t, p, q⟩ := hc
  obtain ⟨t1, p1, q1⟩ := h
  refine ⟨_, ps_while hp p p1, fun H0 B Hf sd σ H D sr h => ?_⟩
  obtain ⟨n, hn⟩ : ∃ n, PoS X.K E H0 B Hf (whileD k f n sd) D := by
    unfold sWhile at h
    split at h
    · exact ⟨_, h⟩
    · exact h.elim
  refine ⟨fun m σ' H' => ∃ Hf' sd', Same Hf Hf' ∧ SR X.K H0 B Hf' sd' σ' H' ∧ PoS X.K E H0 B Hf' (whileD k f m sd') D, ⟨n, Hf, sd, Same.refl _, sr, hn⟩, ?_⟩
  rintro m σ1 H1 ⟨Hf1, sd1, e1, sr1, h1⟩
  cases m with
  | zero => exact h1.elim
  | succ m =>
    unfold whileD at h1
    refine q H0 B Hf1 sd1 σ1 H1 _ sr1 (PoS.bind (R := rQ) sr1 h1 fun c v Hf2 H2 _ g2 sr2 rv h2 => ?_)
    have e : c = v := rv
    subst e
    cases c with
    | false =>
      rw [if_neg Bool.false_ne_true] at h2 ⊢
      exact h2 σ1 Hf2 H2 (Same.refl _) sr2
    | true =>
      rw [if_pos rfl] at h2 ⊢
      refine ⟨fun σ' H' => ∃ Hf' sd', Same Hf Hf' ∧ SR X.K H0 B Hf' sd' σ' H' ∧ PoS X.K E H0 B Hf' (whileD k f m sd') D, fun σ' H' w => ⟨m, Nat.lt_succ_self m, w⟩, ?_⟩
      refine q1 H0 B Hf2 sd1 σ1 H2 _ sr2 ?_
      cases e2 : f sd1 with
      | ok o =>
        rw [e2] at h2
        cases o with
        | nx sd' => exact fun σ' Hf' H' e' sr' => ⟨Hf', sd', e1.trans (g2.fz.trans e'), sr', PoS.weak e' h2⟩
        | ct sd' => exact fun σ' Hf' H' e' sr' => ⟨Hf', sd', e1.trans (g2.fz.trans e'), sr', PoS.weak e' h2⟩
        | bk sd' => exact h2
        | rt s => exact h2
      | ex x => rw [e2] at h2; exact h2
      | bad => rw [e2] at h2; exact h2
end
end DL

set_option maxHeartbeats 4000000

namespace DL
open PySem PySem.Spec PyProof.Rows L2

/-! ### a list unpacked -/
section
variable {prog : Program} {w : World} {A : Around} {E : Value → Shared → Prop}
theorem draw_list {it t : Addr} {items : Array Value} (hne : t ≠ it) : ∀ (n i : Nat) (s : Shared) (Q : List Value → Shared → Prop), s.heap.IsListIter it t i → s.heap.IsList t items → i + n ≤ items.size →
    (∀ h', h'.IsListIter it t (i + n) → Heap.SameBut it s.heap h' → Q ((items.toList.drop i).take n) { s with heap := h' }) → wpAny (model prog w) A (draw (.ref it) n) Q E s
  | 0, i, s, Q, hit, _, _, hQ => by
    show wpAny _ _ (pure []) Q E s
    exact wpAny_pure (by simpa using hQ s.heap hit (Heap.SameBut.refl ..))
  | n + 1, i, s, Q, hit, ht, hle, hQ => by
    have hlt : i < items.size := by lia
    show wpAny _ _ (pyNext (.ref it) >>= _) Q E s
    refine wpAny_bind (wpAny_pyNext_list_item hit ht (x := items[i]) (by simp [hlt]) fun h₁ hit₁ hs₁ => ?_)
    refine wpAny_bind (wpAny_holding (draw_list hne n (i + 1) _ _ hit₁ (ht.extBut hs₁.extBut hne) (by lia) fun h₂ hit₂ hs₂ => wpAny_pure ?_))
    have hd : items.toList.drop i = items[i] :: items.toList.drop (i + 1) := by simp [List.drop_eq_getElem_cons, hlt]
    have := hQ h₂ (by rw [show i + (n + 1) = i + 1 + n by lia]; exact hit₂) (hs₁.trans hs₂)
    rw [hd, List.take_succ_cons] at this
    exact this
theorem unpackItems_list {s : Shared} {t : Addr} {items : Array Value} {Q : List Value → Shared → Prop} (hh : A.handled = none) (ht : s.heap.IsList t items)
    (hQ : ∀ h', Heap.ExtBut s.heap.objs.size s.heap h' → Q items.toList { s with heap := h' }) : wpAny (model prog w) A (unpackItems (.ref t) items.size none) Q E s := by
  have hlt : t ≠ s.heap.objs.size := by obtain ⟨o, ho, _⟩ := ht; exact Nat.ne_of_lt (Heap.lt_size ho)
  unfold unpackItems
  refine wpAny_bind ?_
  · unfold notIterableAtAll
    refine wpAny_bind (wpAny_specialOf ht.typeIs slot_list_iter.lookup ?_)
    refine wpAny_pure ?_
    simp only [Bool.false_eq_true, if_false]
    refine wpAny_bind (wpAny_holding (wpAny_pyIter_list ht ?_))
    refine wpAny_bind (wpAny_holding (draw_list hlt items.size 0 _ _ ⟨_, Heap.get?_push_size _ rfl, rfl, rfl⟩ (ht.push _) (by lia) fun h₁ hit₁ hs₁ => ?_))
    have hall : List.take items.size (List.drop 0 items.toList) = items.toList := by
      rw [List.drop_zero]; exact List.take_of_length_le (by simp)
    rw [hall]
    rw [if_neg (by simp)]
    have ht₁ : h₁.IsList t items := (ht.push _).extBut hs₁.extBut hlt
    refine wpAny_bind (wpAny_holding (wpAny_pyNext_list_end hh hit₁ ht₁ (by simp) fun h₂ he₂ => ?_))
    simp only [Option.isSome_none, Bool.false_eq_true, if_false]
    refine wpAny_pure (hQ h₂ fun b o hb e => he₂ b o hb (hs₁.extBut b o hb (Heap.get?_push_of_some _ e)))
theorem assign_Tuple_list {s : Shared} {env : Env} {elts : List Expr} {x1} {pos : Pos} {t : Addr} {items : Array Value} {Q : Unit → Shared → Prop} (hh : A.handled = none) (ht : s.heap.IsList t items)
    (hn : (assignEach elts env).length = items.size) (hstar : (assignEach elts env).findIdx? (·.1) = none)
    (h : ∀ h', Heap.ExtBut s.heap.objs.size s.heap h' → wpAny (model prog w) A (assignInOrder ((assignEach elts env).map (·.2)) items.toList) Q E { s with heap := h' }) :
    wpAny (model prog w) A (assign (.Tuple elts x1 pos) env (.ref t)) Q E s := by
  rw [assign_Tuple]
  refine wpAny_bind (wpAny_standAt ?_)
  unfold unpack
  rw [hn, hstar]
  exact wpAny_bind (wpAny_holding (unpackItems_list hh ht h))
def chs (x : Str) : List V := x.cps.toList.map fun c => V.str ⟨#[c]⟩
theorem draw_str {it : Addr} {x : Str} {t : Tok} : ∀ (n i : Nat) (s : Shared) (Q : List Value → Shared → Prop), s.heap.IsStrIter it "str_ascii_iterator" x t i → i + n ≤ x.cps.size →
    (∀ h' tk us, h'.IsStrIter it "str_ascii_iterator" x t (i + n) → Heap.SameBut it s.heap h' → Vals (((chs x).drop i).take n) us → Q us { s with heap := h', toks := tk }) → wpAny (model prog w) A (draw (.ref it) n) Q E s
  | 0, i, s, Q, hit, _, hQ => by
    show wpAny _ _ (pure []) Q E s
    exact wpAny_pure (hQ s.heap s.toks [] hit (Heap.SameBut.refl ..) (by simpa using Paired.nil))
  | n + 1, i, s, Q, hit, hle, hQ => by
    have hlt : i < x.cps.size := by lia
    show wpAny _ _ (pyNext (.ref it) >>= _) Q E s
    refine wpAny_bind (wpAny_pyNext_ascii_item hit (c := x.cps[i]) (by simp [hlt]) fun h₁ hit₁ hs₁ => ?_)
    refine wpAny_bind (wpAny_holding (draw_str n (i + 1) _ _ hit₁ (by lia) fun h₂ tk us hit₂ hs₂ hv => wpAny_pure ?_))
    have hd : (chs x).drop i = V.str ⟨#[x.cps[i]]⟩ :: (chs x).drop (i + 1) := by
      have hl : i < (chs x).length := by simp [chs, hlt]
      rw [List.drop_eq_getElem_cons hl]; simp [chs]
    refine hQ h₂ tk _ (by rw [show i + (n + 1) = i + 1 + n by lia]; exact hit₂) (hs₁.trans hs₂) ?_
    rw [hd, List.take_succ_cons]
    exact .cons ⟨_, rfl⟩ hv
theorem unpackItems_str {s : Shared} {x : Str} {t : Tok} {Q : List Value → Shared → Prop} (hh : A.handled = none) (ha : x.cps.all (· < 128) = true)
    (hQ : ∀ h' tk us, Heap.ExtBut s.heap.objs.size s.heap h' → Vals (chs x) us → Q us { s with heap := h', toks := tk }) : wpAny (model prog w) A (unpackItems (.str x t) x.cps.size none) Q E s := by
  unfold unpackItems
  refine wpAny_bind ?_
  · unfold notIterableAtAll
    refine wpAny_bind (wpAny_specialOf (typeIs_str s x t) PySem.F.slot_str_iter.lookup ?_)
    refine wpAny_pure ?_
    simp only [Bool.false_eq_true, if_false]
    refine wpAny_bind (wpAny_holding (wpAny_pyIter_ascii ha ?_))
    refine wpAny_bind (wpAny_holding (draw_str x.cps.size 0 _ _ ⟨_, Heap.get?_push_size _ rfl, rfl, rfl⟩ (by lia) fun h₁ tk us hit₁ hs₁ hv => ?_))
    have hall : List.take x.cps.size (List.drop 0 (chs x)) = chs x := by
      rw [List.drop_zero]; exact List.take_of_length_le (by simp [chs])
    rw [hall] at hv
    have hl : us.length = x.cps.size := by rw [← hv.length]; simp [chs]
    rw [if_neg (by simp [hl])]
    refine wpAny_bind (wpAny_holding (wpAny_pyNext_ascii_end hh hit₁ (by simp) fun h₂ he₂ => ?_))
    simp only [Option.isSome_none, Bool.false_eq_true, if_false]
    refine wpAny_pure (hQ h₂ tk us (fun b o hb e => he₂ b o hb (hs₁.extBut b o hb (Heap.get?_push_of_some _ e))) hv)
theorem assign_Tuple_str {s : Shared} {env : Env} {elts : List Expr} {x1} {pos : Pos} {x : Str} {t : Tok} {Q : Unit → Shared → Prop} (hh : A.handled = none) (ha : x.cps.all (· < 128) = true)
    (hn : (assignEach elts env).length = x.cps.size) (hstar : (assignEach elts env).findIdx? (·.1) = none)
    (h : ∀ h' tk us, Heap.ExtBut s.heap.objs.size s.heap h' → Vals (chs x) us → wpAny (model prog w) A (assignInOrder ((assignEach elts env).map (·.2)) us) Q E { s with heap := h', toks := tk }) :
    wpAny (model prog w) A (assign (.Tuple elts x1 pos) env (.str x t)) Q E s := by
  rw [assign_Tuple]
  refine wpAny_bind (wpAny_standAt ?_)
  unfold unpack
  rw [hn, hstar]
  exact wpAny_bind (wpAny_holding (unpackItems_str hh ha h))
end
section
variable {X : Cx} {pos : Pos}
/-- (a, b, ..) = a tuple or a list of that length -/
def gSeq (K : PySem.W.Frag) (n : Nat) (t : TGs) : TG := fun v σ H Q => (∃ a xs, v = .ref a ∧ (SqT K H a xs ∨ SqL K H a xs) ∧ xs.length = n ∧ t xs σ H Q) ∨ ∃ x : Str, v = .str x ∧ x.cps.all (· < 128) = true ∧ x.cps.size = n ∧ t (chs x) σ H Q
theorem pg_seq {es : List Expr} {k : Nat} {t : TGs} {n : Nat} (hc : X.calm = true) (h : PGs X es t)
    (hn : (assignEach es X.env).length = n := by rfl) (hst : (assignEach es X.env).findIdx? (·.1) = none := by rfl) : PG X (.Tuple es k pos) (gSeq X.K n t) := by
  intro pins s σ H v u Q I r hw
  rcases hw with ⟨a, xs, e1, hq, hl, hw⟩ | ⟨x, e1, ha, hl, hw⟩
  case inr =>
    subst e1
    obtain ⟨tk, rfl⟩ := (show ∃ t, u = Value.str x t from r)
    refine assign_Tuple_str (I.ok.hd hc) ha (by rw [hn, hl]) hst fun h' tk us hx hv => ?_
    have I1 : Inv X pins σ H { s with heap := h', toks := tk } := I.kept (t' := tk) fun b o e => hx b o (Nat.ne_of_lt (Heap.lt_size e)) e
    exact h pins _ σ H (chs x) _ Q I1 hv hw
  subst e1
  cases r
  rcases hq with hq | hq
  · obtain ⟨its, rv, ht, hz⟩ := I.tuple hq
    refine assign_Tuple_tuple (I.ok.hd hc) ht (by simp [hn, ← hl, rv.length]) hst fun h' hx => ?_
    have I1 : Inv X pins σ H { s with heap := h' } := I.kept (t' := s.toks) fun b o e => hx b o (Nat.ne_of_lt (Heap.lt_size e)) e
    exact h pins _ σ H xs _ Q I1 (by simpa using rv) hw
  · obtain ⟨its, rv, ht, hz⟩ := I.list hq
    refine assign_Tuple_list (I.ok.hd hc) ht.isList (by simp [hn, ← hl, rv.length]) hst fun h' hx => ?_
    have I1 : Inv X pins σ H { s with heap := h' } := I.kept (t' := s.toks) fun b o e => hx b o (Nat.ne_of_lt (Heap.lt_size e)) e
    exact h pins _ σ H xs _ Q I1 (by simpa using rv) hw
end

/-! ### targets -/
def PGd (X : Cx) (tg : Expr) (g : D → DSt → M DSt) : Prop :=
  ∃ t : TG, PG X tg t ∧ ∀ (H0 : Hp) (B : Addr → Prop) (Hf : Hp) (sd : DSt) (σ : L2.St) (H : Hp) (v : V) (d : D) (sd' : DSt) (Q : L2.St → Hp → Prop), SR X.K H0 B Hf sd σ H → Rep X.K Hf d v → g d sd = .ok sd' →
    (∀ σ', SR X.K H0 B Hf sd' σ' H → Q σ' H) → t v σ H Q
def PGsd (X : Cx) (ts : List Expr) (g : List D → DSt → M DSt) : Prop :=
  ∃ t : TGs, PGs X ts t ∧ ∀ (H0 : Hp) (B : Addr → Prop) (Hf : Hp) (sd : DSt) (σ : L2.St) (H : Hp) (vs : List V) (ds : List D) (sd' : DSt) (Q : L2.St → Hp → Prop), SR X.K H0 B Hf sd σ H → Reps X.K Hf ds vs → g ds sd = .ok sd' →
    (∀ σ', SR X.K H0 B Hf sd' σ' H → Q σ' H) → t vs σ H Q
section
variable {X : Cx} {E : XK} {pos : Pos} {a b : Expr}
def gNm (i : Nat) (d : D) (sd : DSt) : M DSt := .ok (sd.set i (some (.im d)))
theorem pgd_name (i : Nat) {x : Str} (hN : X.N.Nodup) (hi : X.N[i]? = some x := by rfl) (hx : Loc X.env.scope x := by first | exact Or.inl rfl | exact Or.inr rfl) (hf : X.fn x = true ∨ X.env.scope.names.lookup x = some .local := by first | exact .inl rfl | exact .inr rfl | assumption) :
    PGd X (.Name x pos) (gNm i) := by
  refine ⟨_, pg_name hN hi hx hf, fun H0 B Hf sd σ H v d sd' Q sr r e h => ?_⟩
  cases e
  exact h _ (sr.set_im i r)
def gsNil : List D → DSt → M DSt
  | [], sd => .ok sd
  | _, _ => .bad
def gsCons (g : D → DSt → M DSt) (gs : List D → DSt → M DSt) : List D → DSt → M DSt
  | d :: ds, sd => (g d sd).bind fun sd' => gs ds sd'
  | _, _ => .bad
theorem pgsd_nil : PGsd X [] gsNil := by
  refine ⟨_, pgs_nil, fun H0 B Hf sd σ H vs ds sd' Q sr r e h => ?_⟩
  cases ds with
  | nil => cases e; exact ⟨reps_nil.mp r, h σ sr⟩
  | cons d ds => cases e
theorem pgsd_cons {es : List Expr} {g : D → DSt → M DSt} {gs : List D → DSt → M DSt} (h1 : PGd X a g) (h2 : PGsd X es gs) (hs : (assignEach (a :: es) X.env).map (·.2) = assign a X.env :: (assignEach es X.env).map (·.2) := by rfl) : PGsd X (a :: es) (gsCons g gs) := by
  obtain ⟨t, p, q⟩ := h1
  obtain ⟨t2, p2, q2⟩ := h2
  refine ⟨_, pgs_cons p p2 hs, fun H0 B Hf sd σ H vs ds sd' Q sr r e h => ?_⟩
  cases ds with
  | nil => cases e
  | cons d ds =>
    obtain ⟨v, vr, rfl, rv, rr⟩ := reps_cons.mp r
    cases e1 : g d sd with
    | ok sd1 =>
      have e' : gs ds sd1 = .ok sd' := by
        have e : (g d sd).bind (fun sd' => gs ds sd') = .ok sd' := e
        rw [e1] at e
        exact e
      exact ⟨v, vr, rfl, q H0 B Hf sd σ H v d sd1 _ sr rv e1 fun σ1 sr1 => q2 H0 B Hf sd1 σ1 H vr ds sd' Q sr1 rr e' h⟩
    | ex x => have e : (g d sd).bind (fun sd' => gs ds sd') = .ok sd' := e; rw [e1] at e; cases e
    | bad => have e : (g d sd).bind (fun sd' => gs ds sd') = .ok sd' := e; rw [e1] at e; cases e
def gTupD (n : Nat) (gs : List D → DSt → M DSt) : D → DSt → M DSt
  | .tup ds, sd => if ds.length = n then gs ds sd else .bad
  | .lst ds, sd => if ds.length = n then gs ds sd else .bad
  | .str x, sd => if x.cps.size = n ∧ x.cps.all (· < 128) = true then gs (x.cps.toList.map fun c => .str ⟨#[c]⟩) sd else .bad
  | _, _ => .bad
theorem reps_chs {K : PySem.W.Frag} {H : Hp} : ∀ l : List Nat, Reps K H (l.map fun c => D.str ⟨#[c]⟩) (l.map fun c => V.str ⟨#[c]⟩)
  | [] => Reps.nil
  | _ :: l => Reps.cons (rep_str.mpr rfl) (reps_chs l)
theorem pgd_tup {es : List Expr} {k : Nat} {gs : List D → DSt → M DSt} {n : Nat} (hc : X.calm = true) (h : PGsd X es gs)
    (hn : (assignEach es X.env).length = n := by rfl) (hst : (assignEach es X.env).findIdx? (·.1) = none := by rfl) : PGd X (.Tuple es k pos) (gTupD n gs) := by
  obtain ⟨t, p, q⟩ := h
  refine ⟨_, pg_seq hc p hn hst, fun H0 B Hf sd σ H v d sd' Q sr r e h => ?_⟩
  unfold gTupD at e
  split at e
  · rename_i ds
    split at e
    · rename_i hl
      obtain ⟨a, xs, rfl, ha, hr⟩ := rep_tupQ r
      exact .inl ⟨a, xs, rfl, .inl (Same.seqT sr.sub ha), by rw [← hr.length]; exact hl, q H0 B Hf sd σ H xs ds sd' Q sr hr e h⟩
    · cases e
  · rename_i ds
    split at e
    · rename_i hl
      obtain ⟨a, xs, rfl, ha, hr⟩ := rep_lst.mp r
      exact .inl ⟨a, xs, rfl, .inr (sr.sub.seq ha), by rw [← hr.length]; exact hl, q H0 B Hf sd σ H xs ds sd' Q sr hr e h⟩
    · cases e
  · rename_i x
    split at e
    · rename_i hl
      exact .inr ⟨x, rep_str.mp r, hl.2, hl.1, q H0 B Hf sd σ H (chs x) _ sd' Q sr (reps_chs x.cps.toList) e h⟩
    · cases e
  · cases e
def sAsg (f : DSt → M D) (g : D → DSt → M DSt) (sd : DSt) : M O := (f sd).bind fun d => match g d sd with
  | .ok sd' => .ok (.nx sd')
  | _ => .bad
theorem psd_asg {e tg : Expr} {f : DSt → M D} {g : D → DSt → M DSt} (h : PEd X E e f) (hg : PGd X tg g) (hs : swapsWithSole [tg] e pos.line X.env = pure false := by rfl) (hw : swappedStores [tg] e X.env = pure none := by rfl)
    (h1 : (assignEach [tg] X.env).map (·.2) = [assign tg X.env] := by rfl) : PSd X E (.Assign [tg] e pos) (sAsg f g) := by
  obtain ⟨t, p, q⟩ := h
  obtain ⟨tg', pg, qg⟩ := hg
  refine ⟨_, ps_asg p pg hs hw h1, fun H0 B Hf sd σ H D sr h => ?_⟩
  refine q H0 B Hf sd σ H _ sr (PoS.bind sr h fun d v Hf1 H1 _ g1 sr1 rv h1 => ?_)
  split at h1
  · rename_i sd' e1
    exact qg H0 B Hf1 sd σ H1 v d sd' _ sr1 rv e1 fun σ' sr' => h1 σ' Hf1 H1 (Same.refl _) sr'
  · exact h1.elim
/-- a, b = x, y with plain local names -/
def sPar (i j : Nat) (fs : DSt → M (List D)) (sd : DSt) : M O := (fs sd).bind fun ds => match ds with
  | [d, e] => .ok (.nx ((sd.set i (some (.im d))).set j (some (.im e))))
  | _ => .bad
theorem psd_par (i j : Nat) {x y : Str} {fs : DSt → M (List D)} {px py pt : Pos} {kt k2 pt2} (hc : X.calm = true) (hN : X.N.Nodup) (ha : PAd X E [a, b] fs)
    (hw : swappedStores [.Tuple [.Name x px, .Name y py] kt pt] (.Tuple [a, b] k2 pt2) X.env = pure (some [x, y])) (hi : X.N[i]? = some x := by rfl) (hj : X.N[j]? = some y := by rfl) (hij : i ≠ j := by decide)
    (hx : X.env.scope.names.lookup x = some .local := by rfl) (hy : X.env.scope.names.lookup y = some .local := by rfl)
    (hs : swapsWithSole [.Tuple [.Name x px, .Name y py] kt pt] (.Tuple [a, b] k2 pt2) pos.line X.env = pure false := by rfl) :
    PSd X E (.Assign [.Tuple [.Name x px, .Name y py] kt pt] (.Tuple [a, b] k2 pt2) pos) (sPar i j fs) := by
  obtain ⟨t, p, q⟩ := ha
  refine ⟨_, ps_par hc hN hi hj hij hx hy p hw hs, fun H0 B Hf sd σ H D sr h => ?_⟩
  refine q H0 B Hf sd σ H _ sr (PoS.bind sr h fun ds vs Hf1 H1 _ g1 sr1 rs h1 => ?_)
  split at h1
  · rename_i d e
    obtain ⟨v, w, rfl, rv, rw'⟩ := reps2 rs
    exact ⟨v, w, rfl, h1 _ Hf1 H1 (Same.refl _) ((sr1.set_im i rv).set_im j rw')⟩
  · exact h1.elim

/-! ### defs -/
def S.toD : S → M D
  | .im d => .ok d
  | .ow ds => .ok (.lst ds)
  | .od _ => .bad
  | .dk _ => .bad
  | .xc _ => .bad
  | .fn _ => .bad
/-- a def that raises nothing, by a function of its arguments -/
def spN (K : PySem.W.Frag) (F : List D → M S) : Sp := fun vs H Q _ => ∃ Hf ds s, Same Hf H ∧ Reps K Hf ds vs ∧ F ds = .ok s ∧ ∀ v Hf' H', Gr Hf H Hf' H' → RS K H Hf' H' s v → Q v H'
def fin' (r : M O) : M S := r.bind fun o => match o with
  | .rt s => .ok s
  | .nx _ => .ok (.im .non)
  | _ => .bad
def fnD (n m : Nat) (f : DSt → M O) (ds : List D) : M S := if ds.length = n then fin' (f (ds.map (fun d => some (S.im d)) ++ List.replicate m none)) else .bad
theorem sr_start {K : PySem.W.Frag} {N : List Str} {Hf H : Hp} {ds : List D} {vs : List V} {m : Nat} (e : Same Hf H) (r : Reps K Hf ds vs) (hN : N.length = ds.length + m) :
    SR K H (fun a => Lv H a ∧ Hf a = none) Hf (ds.map (fun d => some (S.im d)) ++ List.replicate m none) (L2.start N vs) H where
  sub := e
  all := Same.refl _
  ban := fun _ h => h.2
  bt := fun _ h => h.1
  len := by
    unfold L2.start
    have := r.length
    simp only [List.length_append, List.length_map, List.length_replicate]
    lia
  imS := fun i d hi hz => by
    unfold L2.start
    by_cases hl : i < ds.length
    · rw [List.getElem?_append_left (by simpa using hl), List.getElem?_map] at hi
      cases q : ds[i]? with
      | none => rw [q] at hi; cases hi
      | some d' =>
        rw [q] at hi
        cases hi
        obtain ⟨v, e1, e2⟩ := r.get q
        refine ⟨v, ?_, e2⟩
        have : i < vs.length := (List.getElem?_eq_some_iff.mp e1).1
        rw [List.getElem?_append_left (by simpa using this), List.getElem?_map, e1]
        rfl
    · rw [List.getElem?_append_right (by simpa using hl), List.getElem?_replicate] at hi
      split at hi <;> cases hi
  ow := fun i t hi ho => by
    by_cases hl : i < ds.length
    · rw [List.getElem?_append_left (by simpa using hl), List.getElem?_map] at hi
      cases q : ds[i]? with
      | none => rw [q] at hi; cases hi
      | some d' => rw [q] at hi; cases hi; cases ho
    · rw [List.getElem?_append_right (by simpa using hl), List.getElem?_replicate] at hi
      split at hi <;> cases hi
  sep := fun i j t _ p _ hi ho _ _ _ _ => by
    by_cases hl : i < ds.length
    · rw [List.getElem?_append_left (by simpa using hl), List.getElem?_map] at hi
      cases q : ds[i]? with
      | none => rw [q] at hi; cases hi
      | some d' => rw [q] at hi; cases hi; cases ho
    · rw [List.getElem?_append_right (by simpa using hl), List.getElem?_replicate] at hi
      split at hi <;> cases hi
theorem fn_d {P : Program} {w : World} {K : PySem.W.Frag} {mg : Str → Option Value} {base : Heap} {x qual : Str} {st : Stmt} {f : Addr} {fd : FuncData} {N ps : List Str} {k m n : Nat} {fb : DSt → M O} (F : Fun K x qual st f fd) (sc : FnScope N ps (defScope st))
    (hn : ps.length = n) (hN : N.length = n + m)
    (hbody : ∀ (cdv : Value) (A : Around) (outer : List Env) (s : Shared) (H : Hp) (E : XK), Room k (A.deeper (envOfC qual (defScope st) s.heap.objs.size f cdv)) →
      PSsd (cxOf CX0 P w K mg base N qual (defScope st) f cdv A outer s H E).nox E0 (defBody st) fb) : FnOk P w K mg base CX0 (k + 1) f fd ps (spN K (fnD n m fb)) := by
  refine F.ok sc (fun vs H Q E h => ?_) (fun cdv A outer s H vs Q E hr h => ?_)
  · obtain ⟨Hf, ds, s, e, r, hF, _⟩ := h
    unfold fnD at hF
    split at hF
    · rename_i hl
      rw [← r.length, hl, hn]
    · cases hF
  · obtain ⟨Hf, ds, s', e, r, hF, q⟩ := h
    obtain ⟨t, p, qt⟩ := hbody cdv A outer s H E hr
    unfold fnD at hF
    split at hF
    · rename_i hl
      refine ⟨t, p, qt H _ Hf _ (L2.start N vs) H _ (sr_start (N := N) (m := m) e r (by lia)) ?_⟩
      generalize fb (List.map (fun d => some (S.im d)) ds ++ List.replicate m none) = ro at hF
      have back : ∀ {v : V} {Hf' H' : Hp} {s : DL.S}, Same Hf Hf' → Fin' H (fun a => Lv H a ∧ Hf a = none) Hf' H' → RS K H Hf' H' s v → s = s' → Q v H' := fun {v Hf' H' s} e1 e2 e3 e4 => by
        subst e4
        exact q v Hf' H' ⟨e1, e2.sub, e2.all, fun a h1 h2 => e2.ban a ⟨h1, h2⟩⟩ e3
      cases ro with
      | ok o =>
        cases o with
        | rt s2 =>
          have e' : s2 = s' := by cases hF; rfl
          exact fun v Hf' H' e1 e2 e3 => back e1 e2 e3 e'
        | nx sd' =>
          have e' : DL.S.im .non = s' := by cases hF; rfl
          exact fun σ' Hf' H' e1 sr' => back (v := .non) (s := DL.S.im .non) e1 sr'.fin (show Rep K Hf' .non .non from rep_non.mpr rfl) e'
        | bk sd' => cases hF
        | ct sd' => cases hF
      | ex x => cases hF
      | bad => cases hF
    · cases hF
def eCall (F : List D → M S) (fs : DSt → M (List D)) (sd : DSt) : M D := (fs sd).bind fun ds => match F ds with
  | .ok s => s.toD
  | _ => .bad
theorem pd_call {k : Nat} {f : Addr} {fd : FuncData} {ps : List Str} {F : List D → M S} {x : Str} {p : Pos} {es : List Expr} {fs : DSt → M (List D)} (G : FnOk X.prog X.w X.K X.mg X.base CX0 k f fd ps (spN X.K F)) (hr : Room k X.A) (hm : X.mg x = some (.ref f)) (hk : PySem.W.keepIn X.K (.ref f) = true) (hb : Binds X.K fd ps [])
    (ha : PAd X E (a :: es) fs) (hg : Gl X x := by rfl) (hdb : (x == ("__debug__" : Str)) = false := by decide) (he : starEach (a :: es) X.env = (false, eval a X.env) :: starEach es X.env := by rfl) (hpl : (backTo pos (starEach es X.env)).any (·.1) = false := by rfl) :
    PEd X E (.Call (.Name x p) (a :: es) [] pos) (eCall F fs) := by
  obtain ⟨t, pt, qt⟩ := ha
  refine ⟨_, pe_call (dvs := []) (E := E0) G hr hg hm hk hb .nil pass0 pt hdb he hpl, fun H0 B Hf sd σ H Q sr h => ?_⟩
  refine qt H0 B Hf sd σ H _ sr (Po.bind h fun ds vs Hf1 H1 _ g1 rs h1 => ?_)
  split at h1
  · rename_i s e
    refine ⟨Hf1, ds, s, g1.sub, by rw [List.append_nil]; exact rs, e, fun v Hf' H' g2 rv => ?_⟩
    cases s with
    | im d => exact h1 v Hf' H' g2 rv
    | ow es =>
      obtain ⟨p, rfl, e1, e2, xs, e3, e4⟩ := rv
      refine h1 _ (upd Hf' p (.lst xs)) H' ⟨g2.fz.trans (same_upd e2 _), fun b u q => ?_, g2.all, fun a h1 h2 => ?_⟩ (rep_lst.mpr ⟨p, xs, rfl, SqL.of upd_same, e4.mono (same_upd e2 _)⟩)
      · by_cases hb : b = p
        · subst hb; rw [upd_same] at q; rw [e3]; exact q
        · rw [upd_ne hb] at q; exact g2.sub b u q
      · have : a ≠ p := fun z => h1.nn (z ▸ e1)
        rw [upd_ne this]; exact g2.ban a h1 h2
    | od kvs => exact h1.elim
    | dk kvs => exact h1.elim
    | xc x => exact h1.elim
    | fn x => exact h1.elim
  · exact h1.elim
end
end DL

set_option maxHeartbeats 4000000

namespace DL
open PySem PySem.Spec PyProof.Rows L2

/-! ### data that is alike -/
mutual
def D.eq : D → D → Bool
  | .non, .non => true
  | .bl a, .bl b => a == b
  | .bl a, .int b => (if a then 1 else 0) == b
  | .int a, .bl b => a == (if b then 1 else 0)
  | .int a, .int b => a == b
  | .str a, .str b => a == b
  | .tup xs, .tup ys => D.eqs xs ys
  | .lst xs, .lst ys => D.eqs xs ys
  | _, _ => false
def D.eqs : List D → List D → Bool
  | [], [] => true
  | x :: xs, y :: ys => D.eq x y && D.eqs xs ys
  | _, _ => false
end
mutual
def D.dep : D → Nat
  | .tup ds => D.deps ds + 1
  | .lst ds => D.deps ds + 1
  | _ => 0
def D.deps : List D → Nat
  | [] => 0
  | d :: ds => max (D.dep d) (D.deps ds)
end
mutual
theorem D.eq_refl : ∀ d : D, D.eq d d = true
  | .non => by rw [D.eq]
  | .bl b => by rw [D.eq]; simp
  | .int i => by rw [D.eq]; simp
  | .str x => by rw [D.eq]; simp
  | .tup ds => by rw [D.eq]; exact D.eqs_refl ds
  | .lst ds => by rw [D.eq]; exact D.eqs_refl ds
theorem D.eqs_refl : ∀ ds : List D, D.eqs ds ds = true
  | [] => by rw [D.eqs]
  | d :: ds => by rw [D.eqs, D.eq_refl d, D.eqs_refl ds]; rfl
end
theorem D.eqs_all : ∀ ds es : List D, D.eqs ds es = ((List.range (min ds.length es.length)).all (fun j => D.eq (ds.getD j .non) (es.getD j .non)) && ds.length == es.length)
  | [], [] => by rw [D.eqs]; rfl
  | [], _ :: _ => by rw [D.eqs]; simp; all_goals (intros; simp_all)
  | _ :: _, [] => by rw [D.eqs]; simp; all_goals (intros; simp_all)
  | d :: ds, e :: es => by
    have h : min (d :: ds).length (e :: es).length = min ds.length es.length + 1 := by simp only [List.length_cons]; lia
    rw [D.eqs, D.eqs_all ds es, h, List.range_succ_eq_map, List.all_cons, List.all_map, Bool.and_assoc]
    congr 1
    simp only [List.length_cons]
    congr 1
    by_cases q : ds.length = es.length
    · simp [q]
    · have q' : ¬ ds.length + 1 = es.length + 1 := by lia
      simp [q]

section
variable {X : Cx} {pins : List (Addr × Obj)} {σ : L2.St} {H : Hp} {s : Shared}
theorem seq_tl (I : Inv X pins σ H s) {a : Addr} {xs ys : List V} (h1 : SqT X.K H a xs) (h2 : SqL X.K H a ys) : False := by
  obtain ⟨its, _, ⟨o, e, c, _⟩, _⟩ := I.tuple h1
  obtain ⟨its2, _, p, _⟩ := I.list h2
  obtain ⟨o2, e2, c2, _⟩ := p.isList
  rw [e] at e2
  cases e2
  rw [c] at c2
  exact absurd c2 (by decide)
mutual
theorem rep_inj (I : Inv X pins σ H s) : ∀ (d d' : D) (v : V), Rep X.K H d v → Rep X.K H d' v → d = d'
  | .non, d', v, h1, h2 => by
    rw [rep_non] at h1; subst h1
    cases d' with
    | non => rfl
    | bl b => rw [rep_bl] at h2; cases h2
    | int b => rw [rep_int] at h2; cases h2
    | str b => rw [rep_str] at h2; cases h2
    | tup b => rw [rep_tup] at h2; obtain ⟨_, _, e, _⟩ := h2; cases e
    | lst b => rw [rep_lst] at h2; obtain ⟨_, _, e, _⟩ := h2; cases e
  | .bl a, d', v, h1, h2 => by
    rw [rep_bl] at h1; subst h1
    cases d' with
    | non => rw [rep_non] at h2; cases h2
    | bl b => rw [rep_bl] at h2; cases h2; rfl
    | int b => rw [rep_int] at h2; cases h2
    | str b => rw [rep_str] at h2; cases h2
    | tup b => rw [rep_tup] at h2; obtain ⟨_, _, e, _⟩ := h2; cases e
    | lst b => rw [rep_lst] at h2; obtain ⟨_, _, e, _⟩ := h2; cases e
  | .int a, d', v, h1, h2 => by
    rw [rep_int] at h1; subst h1
    cases d' with
    | non => rw [rep_non] at h2; cases h2
    | bl b => rw [rep_bl] at h2; cases h2
    | int b => rw [rep_int] at h2; cases h2; rfl
    | str b => rw [rep_str] at h2; cases h2
    | tup b => rw [rep_tup] at h2; obtain ⟨_, _, e, _⟩ := h2; cases e
    | lst b => rw [rep_lst] at h2; obtain ⟨_, _, e, _⟩ := h2; cases e
  | .str a, d', v, h1, h2 => by
    rw [rep_str] at h1; subst h1
    cases d' with
    | non => rw [rep_non] at h2; cases h2
    | bl b => rw [rep_bl] at h2; cases h2
    | int b => rw [rep_int] at h2; cases h2
    | str b => rw [rep_str] at h2; cases h2; rfl
    | tup b => rw [rep_tup] at h2; obtain ⟨_, _, e, _⟩ := h2; cases e
    | lst b => rw [rep_lst] at h2; obtain ⟨_, _, e, _⟩ := h2; cases e
  | .tup ds, d', v, h1, h2 => by
    obtain ⟨a, xs, rfl, ha, hr⟩ := rep_tupQ h1
    cases d' with
    | non => rw [rep_non] at h2; cases h2
    | bl b => rw [rep_bl] at h2; cases h2
    | int b => rw [rep_int] at h2; cases h2
    | str b => rw [rep_str] at h2; cases h2
    | tup es =>
      obtain ⟨b, ys, e, hb, hr2⟩ := rep_tupQ h2
      cases e
      have := I.tuple_inj ha hb
      subst this
      rw [reps_inj I ds es xs hr hr2]
    | lst es =>
      obtain ⟨b, ys, e, hb, hr2⟩ := rep_lst.mp h2
      cases e
      exact (seq_tl I ha hb).elim
  | .lst ds, d', v, h1, h2 => by
    obtain ⟨a, xs, rfl, ha, hr⟩ := rep_lst.mp h1
    cases d' with
    | non => rw [rep_non] at h2; cases h2
    | bl b => rw [rep_bl] at h2; cases h2
    | int b => rw [rep_int] at h2; cases h2
    | str b => rw [rep_str] at h2; cases h2
    | tup es =>
      obtain ⟨b, ys, e, hb, hr2⟩ := rep_tupQ h2
      cases e
      exact (seq_tl I hb ha).elim
    | lst es =>
      obtain ⟨b, ys, e, hb, hr2⟩ := rep_lst.mp h2
      cases e
      have := I.list_inj ha hb
      subst this
      rw [reps_inj I ds es xs hr hr2]
theorem reps_inj (I : Inv X pins σ H s) : ∀ (ds es : List D) (vs : List V), Reps X.K H ds vs → Reps X.K H es vs → ds = es
  | [], [], _, _, _ => rfl
  | [], e :: es, vs, h1, h2 => by
    rw [reps_nil] at h1; subst h1
    obtain ⟨_, _, z, _⟩ := reps_cons.mp h2
    cases z
  | d :: ds, [], vs, h1, h2 => by
    rw [reps_nil] at h2; subst h2
    obtain ⟨_, _, z, _⟩ := reps_cons.mp h1
    cases z
  | d :: ds, e :: es, vs, h1, h2 => by
    obtain ⟨v, r, rfl, a1, a2⟩ := reps_cons.mp h1
    obtain ⟨v', r', z, b1, b2⟩ := reps_cons.mp h2
    cases z
    rw [rep_inj I d e v a1 b1, reps_inj I ds es r a2 b2]
end

theorem EqAt.of_eq {A : Around} {u v : Value} {b c : Bool} (h : SeqAt.EqAt A s u v b) (e : b = c) : SeqAt.EqAt A s u v c := e ▸ h
structure Cm (A : Around) (s : Shared) (u v : Value) (b : Bool) : Prop where
  rc : SeqAt.RcAt A s u v b
  ne : SeqAt.RcNeAt A s u v (!b)
  eq : SeqAt.EqAt A s u v b

mutual
theorem cmp_at (I : Inv X pins σ H s) : ∀ (x y : D) (A : Around) (v w : V) (u1 u2 : Value), A.units + x.dep < cLine → Rep X.K H x v → Rep X.K H y w → RelV v u1 → RelV w u2 → Cm A s u1 u2 (D.eq x y)
  | .non, y, A, v, w, u1, u2, hu, rx, ry, r1, r2 => by
    rw [rep_non] at rx; subst rx
    have r1 : u1 = Value.none := r1
    subst r1
    have hu' : A.units < cLine := by lia
    cases y with
    | non => rw [rep_non] at ry; subst ry; cases (show u2 = Value.none from r2); rw [D.eq]; exact ⟨.none_none, .none_none, .same _⟩
    | bl b => rw [rep_bl] at ry; subst ry; cases (show u2 = Value.bool b from r2); rw [D.eq]; exact ⟨.none_bool b, .none_bool b, .none_bool b⟩; all_goals (intros; simp_all)
    | int b => rw [rep_int] at ry; subst ry; obtain ⟨t, q⟩ := (show ∃ t, u2 = Value.int b t from r2); subst q; rw [D.eq]; exact ⟨.none_int b t, .none_int b t, .none_int b t⟩; all_goals (intros; simp_all)
    | str b => rw [rep_str] at ry; subst ry; obtain ⟨t, q⟩ := (show ∃ t, u2 = Value.str b t from r2); subst q; rw [D.eq]; exact ⟨.none_str b t, .none_str b t, .none_str b t⟩; all_goals (intros; simp_all)
    | tup es =>
      obtain ⟨p, xs, rfl, hp, hr⟩ := rep_tupQ ry
      cases (show u2 = Value.ref p from r2)
      obtain ⟨its, _, ht, _⟩ := I.tuple hp
      rw [D.eq]
      exact ⟨.none_tuple ht hu', .none_tuple ht hu', .none_tuple ht hu'⟩
      all_goals (intros; simp_all)
    | lst es =>
      obtain ⟨p, xs, rfl, hp, hr⟩ := rep_lst.mp ry
      cases (show u2 = Value.ref p from r2)
      obtain ⟨its, _, ht, _⟩ := I.list hp
      rw [D.eq]
      exact ⟨.none_list ht.isList hu', .none_list ht.isList hu', .none_list ht.isList hu'⟩
      all_goals (intros; simp_all)
  | .bl a, y, A, v, w, u1, u2, hu, rx, ry, r1, r2 => by
    rw [rep_bl] at rx; subst rx
    have r1 : u1 = Value.bool a := r1
    subst r1
    have hu' : A.units < cLine := by lia
    cases y with
    | non => rw [rep_non] at ry; subst ry; cases (show u2 = Value.none from r2); rw [D.eq]; exact ⟨.bool_none a, .bool_none a, .bool_none a⟩; all_goals (intros; simp_all)
    | bl b => rw [rep_bl] at ry; subst ry; cases (show u2 = Value.bool b from r2); rw [D.eq]; exact ⟨.bool_bool a b, .bool_bool a b, .bool_bool a b⟩
    | int b => rw [rep_int] at ry; subst ry; obtain ⟨t, q⟩ := (show ∃ t, u2 = Value.int b t from r2); subst q; rw [D.eq]; exact ⟨.bool_int a b t, .bool_int a b t, .bool_int a b t⟩
    | str b => rw [rep_str] at ry; subst ry; obtain ⟨t, q⟩ := (show ∃ t, u2 = Value.str b t from r2); subst q; rw [D.eq]; exact ⟨.bool_str a b t, .bool_str a b t, .bool_str a b t⟩; all_goals (intros; simp_all)
    | tup es =>
      obtain ⟨p, xs, rfl, hp, hr⟩ := rep_tupQ ry
      cases (show u2 = Value.ref p from r2)
      obtain ⟨its, _, ht, _⟩ := I.tuple hp
      rw [D.eq]
      exact ⟨.bool_tuple a ht hu', .bool_tuple a ht hu', .bool_tuple a ht hu'⟩
      all_goals (intros; simp_all)
    | lst es =>
      obtain ⟨p, xs, rfl, hp, hr⟩ := rep_lst.mp ry
      cases (show u2 = Value.ref p from r2)
      obtain ⟨its, _, ht, _⟩ := I.list hp
      rw [D.eq]
      exact ⟨.bool_list a ht.isList hu', .bool_list a ht.isList hu', .bool_list a ht.isList hu'⟩
      all_goals (intros; simp_all)
  | .int a, y, A, v, w, u1, u2, hu, rx, ry, r1, r2 => by
    rw [rep_int] at rx; subst rx
    obtain ⟨t1, q1⟩ := (show ∃ t, u1 = Value.int a t from r1)
    subst q1
    have hu' : A.units < cLine := by lia
    cases y with
    | non => rw [rep_non] at ry; subst ry; cases (show u2 = Value.none from r2); rw [D.eq]; exact ⟨.int_none a t1, .int_none a t1, .int_none a t1⟩; all_goals (intros; simp_all)
    | bl b => rw [rep_bl] at ry; subst ry; cases (show u2 = Value.bool b from r2); rw [D.eq]; exact ⟨.int_bool a t1 b, .int_bool a t1 b, .int_bool a t1 b⟩
    | int b => rw [rep_int] at ry; subst ry; obtain ⟨t, q⟩ := (show ∃ t, u2 = Value.int b t from r2); subst q; rw [D.eq]; exact ⟨.int_int a t1 b t, .int_int a t1 b t, .int_int a t1 b t⟩
    | str b => rw [rep_str] at ry; subst ry; obtain ⟨t, q⟩ := (show ∃ t, u2 = Value.str b t from r2); subst q; rw [D.eq]; exact ⟨.int_str a t1 b t, .int_str a t1 b t, .int_str a t1 b t⟩; all_goals (intros; simp_all)
    | tup es =>
      obtain ⟨p, xs, rfl, hp, hr⟩ := rep_tupQ ry
      cases (show u2 = Value.ref p from r2)
      obtain ⟨its, _, ht, _⟩ := I.tuple hp
      rw [D.eq]
      exact ⟨.int_tuple a t1 ht hu', .int_tuple a t1 ht hu', .int_tuple a t1 ht hu'⟩
      all_goals (intros; simp_all)
    | lst es =>
      obtain ⟨p, xs, rfl, hp, hr⟩ := rep_lst.mp ry
      cases (show u2 = Value.ref p from r2)
      obtain ⟨its, _, ht, _⟩ := I.list hp
      rw [D.eq]
      exact ⟨.int_list a t1 ht.isList hu', .int_list a t1 ht.isList hu', .int_list a t1 ht.isList hu'⟩
      all_goals (intros; simp_all)
  | .str a, y, A, v, w, u1, u2, hu, rx, ry, r1, r2 => by
    rw [rep_str] at rx; subst rx
    obtain ⟨t1, q1⟩ := (show ∃ t, u1 = Value.str a t from r1)
    subst q1
    have hu' : A.units < cLine := by lia
    cases y with
    | non => rw [rep_non] at ry; subst ry; cases (show u2 = Value.none from r2); rw [D.eq]; exact ⟨.str_none a t1, .str_none a t1, .str_none a t1⟩; all_goals (intros; simp_all)
    | bl b => rw [rep_bl] at ry; subst ry; cases (show u2 = Value.bool b from r2); rw [D.eq]; exact ⟨.str_bool a t1 b, .str_bool a t1 b, .str_bool a t1 b⟩; all_goals (intros; simp_all)
    | int b => rw [rep_int] at ry; subst ry; obtain ⟨t, q⟩ := (show ∃ t, u2 = Value.int b t from r2); subst q; rw [D.eq]; exact ⟨.str_int a t1 b t, .str_int a t1 b t, .str_int a t1 b t⟩; all_goals (intros; simp_all)
    | str b => rw [rep_str] at ry; subst ry; obtain ⟨t, q⟩ := (show ∃ t, u2 = Value.str b t from r2); subst q; rw [D.eq]; exact ⟨.str_str a t1 b t, .str_str a t1 b t, .str_str a t1 b t⟩
    | tup es =>
      obtain ⟨p, xs, rfl, hp, hr⟩ := rep_tupQ ry
      cases (show u2 = Value.ref p from r2)
      obtain ⟨its, _, ht, _⟩ := I.tuple hp
      rw [D.eq]
      exact ⟨.str_tuple a t1 ht hu', .str_tuple a t1 ht hu', .str_tuple a t1 ht hu'⟩
      all_goals (intros; simp_all)
    | lst es =>
      obtain ⟨p, xs, rfl, hp, hr⟩ := rep_lst.mp ry
      cases (show u2 = Value.ref p from r2)
      obtain ⟨its, _, ht, _⟩ := I.list hp
      rw [D.eq]
      exact ⟨.str_list a t1 ht.isList hu', .str_list a t1 ht.isList hu', .str_list a t1 ht.isList hu'⟩
      all_goals (intros; simp_all)
  | .tup ds, y, A, v, w, u1, u2, hu, rx, ry, r1, r2 => by
    rw [D.dep] at hu
    have hu' : A.units < cLine := by lia
    obtain ⟨p1, xs1, rfl, hp1, hr1⟩ := rep_tupQ rx
    cases (show u1 = Value.ref p1 from r1)
    obtain ⟨its1, rv1, ht1, _⟩ := I.tuple hp1
    cases y with
    | non => rw [rep_non] at ry; subst ry; cases (show u2 = Value.none from r2); rw [D.eq]; exact ⟨.tuple_none ht1 hu', .tuple_none ht1 hu', .tuple_none ht1 hu'⟩; all_goals (intros; simp_all)
    | bl b => rw [rep_bl] at ry; subst ry; cases (show u2 = Value.bool b from r2); rw [D.eq]; exact ⟨.tuple_bool b ht1 hu', .tuple_bool b ht1 hu', .tuple_bool b ht1 hu'⟩; all_goals (intros; simp_all)
    | int b => rw [rep_int] at ry; subst ry; obtain ⟨t, q⟩ := (show ∃ t, u2 = Value.int b t from r2); subst q; rw [D.eq]; exact ⟨.tuple_int b t ht1 hu', .tuple_int b t ht1 hu', .tuple_int b t ht1 hu'⟩; all_goals (intros; simp_all)
    | str b => rw [rep_str] at ry; subst ry; obtain ⟨t, q⟩ := (show ∃ t, u2 = Value.str b t from r2); subst q; rw [D.eq]; exact ⟨.tuple_str b t ht1 hu', .tuple_str b t ht1 hu', .tuple_str b t ht1 hu'⟩; all_goals (intros; simp_all)
    | tup es =>
      obtain ⟨p2, xs2, rfl, hp2, hr2⟩ := rep_tupQ ry
      cases (show u2 = Value.ref p2 from r2)
      obtain ⟨its2, rv2, ht2, _⟩ := I.tuple hp2
      have l1 : its1.toArray.size = ds.length := by rw [List.size_toArray, ← rv1.length, ← hr1.length]
      have l2 : its2.toArray.size = es.length := by rw [List.size_toArray, ← rv2.length, ← hr2.length]
      have items := cmps_at I ds es A.in1 xs1 xs2 its1 its2 (by show A.units + 1 + _ < _; lia) hr1 hr2 rv1 rv2
      have he : ∀ j (h1 : j < its1.toArray.size) (h2 : j < its2.toArray.size), SeqAt.EqAt A.in1 s its1.toArray[j] its2.toArray[j] (D.eq (ds.getD j .non) (es.getD j .non)) := fun j h1 h2 => by
        refine items j _ _ _ _ ?_ ?_ ?_ ?_
        · rw [List.getD_eq_getElem?_getD, List.getElem?_eq_getElem (by lia)]; simp
        · rw [List.getD_eq_getElem?_getD, List.getElem?_eq_getElem (by lia)]; simp
        · simp
        · simp
      have rc := SeqAt.RcAt.tuples ht1 ht2 hu' he
      have ne := SeqAt.RcNeAt.tuples ht1 ht2 hu' he
      rw [l1, l2, ← D.eqs_all] at rc ne
      rw [D.eq]
      refine ⟨rc, ne, ?_⟩
      by_cases hpp : p1 = p2
      · subst hpp
        have := rep_inj I _ _ _ rx ry
        cases this
        rw [D.eqs_refl]
        exact .same _
      · exact .of_refs hpp rc
    | lst es =>
      obtain ⟨p2, xs2, rfl, hp2, hr2⟩ := rep_lst.mp ry
      cases (show u2 = Value.ref p2 from r2)
      obtain ⟨its2, rv2, ht2, _⟩ := I.list hp2
      rw [D.eq]
      exact ⟨.tuple_list ht1 ht2.isList hu', .tuple_list ht1 ht2.isList hu', .tuple_list ht1 ht2.isList hu'⟩
      all_goals (intros; simp_all)
  | .lst ds, y, A, v, w, u1, u2, hu, rx, ry, r1, r2 => by
    rw [D.dep] at hu
    have hu' : A.units < cLine := by lia
    obtain ⟨p1, xs1, rfl, hp1, hr1⟩ := rep_lst.mp rx
    cases (show u1 = Value.ref p1 from r1)
    obtain ⟨its1, rv1, pl1, _⟩ := I.list hp1
    have ht1 := pl1.isList
    cases y with
    | non => rw [rep_non] at ry; subst ry; cases (show u2 = Value.none from r2); rw [D.eq]; exact ⟨.list_none ht1 hu', .list_none ht1 hu', .list_none ht1 hu'⟩; all_goals (intros; simp_all)
    | bl b => rw [rep_bl] at ry; subst ry; cases (show u2 = Value.bool b from r2); rw [D.eq]; exact ⟨.list_bool b ht1 hu', .list_bool b ht1 hu', .list_bool b ht1 hu'⟩; all_goals (intros; simp_all)
    | int b => rw [rep_int] at ry; subst ry; obtain ⟨t, q⟩ := (show ∃ t, u2 = Value.int b t from r2); subst q; rw [D.eq]; exact ⟨.list_int b t ht1 hu', .list_int b t ht1 hu', .list_int b t ht1 hu'⟩; all_goals (intros; simp_all)
    | str b => rw [rep_str] at ry; subst ry; obtain ⟨t, q⟩ := (show ∃ t, u2 = Value.str b t from r2); subst q; rw [D.eq]; exact ⟨.list_str b t ht1 hu', .list_str b t ht1 hu', .list_str b t ht1 hu'⟩; all_goals (intros; simp_all)
    | tup es =>
      obtain ⟨p2, xs2, rfl, hp2, hr2⟩ := rep_tupQ ry
      cases (show u2 = Value.ref p2 from r2)
      obtain ⟨its2, rv2, ht2, _⟩ := I.tuple hp2
      rw [D.eq]
      exact ⟨.list_tuple ht1 ht2 hu', .list_tuple ht1 ht2 hu', .list_tuple ht1 ht2 hu'⟩
      all_goals (intros; simp_all)
    | lst es =>
      obtain ⟨p2, xs2, rfl, hp2, hr2⟩ := rep_lst.mp ry
      cases (show u2 = Value.ref p2 from r2)
      obtain ⟨its2, rv2, pl2, _⟩ := I.list hp2
      have ht2 := pl2.isList
      have l1 : its1.toArray.size = ds.length := by rw [List.size_toArray, ← rv1.length, ← hr1.length]
      have l2 : its2.toArray.size = es.length := by rw [List.size_toArray, ← rv2.length, ← hr2.length]
      have items := cmps_at I ds es A.in1 xs1 xs2 its1 its2 (by show A.units + 1 + _ < _; lia) hr1 hr2 rv1 rv2
      have he : ∀ j (h1 : j < its1.toArray.size) (h2 : j < its2.toArray.size), SeqAt.EqAt A.in1 s its1.toArray[j] its2.toArray[j] (D.eq (ds.getD j .non) (es.getD j .non)) := fun j h1 h2 => by
        refine items j _ _ _ _ ?_ ?_ ?_ ?_
        · rw [List.getD_eq_getElem?_getD, List.getElem?_eq_getElem (by lia)]; simp
        · rw [List.getD_eq_getElem?_getD, List.getElem?_eq_getElem (by lia)]; simp
        · simp
        · simp
      have both : SeqAt.RcAt A s (.ref p1) (.ref p2) (D.eqs ds es) ∧ SeqAt.RcNeAt A s (.ref p1) (.ref p2) (!D.eqs ds es) := by
        by_cases hl : ds.length = es.length
        · have rc := SeqAt.RcAt.lists ht1 ht2 (by lia) hu' he
          have ne := SeqAt.RcNeAt.lists ht1 ht2 (by lia) hu' he
          have e : D.eqs ds es = (List.range its1.toArray.size).all fun j => D.eq (ds.getD j .non) (es.getD j .non) := by
            rw [D.eqs_all, l1, ← hl, Nat.min_self]; simp
          rw [e]
          exact ⟨rc, ne⟩
        · have e : D.eqs ds es = false := by rw [D.eqs_all]; simp [hl]
          rw [e]
          have hs : (its1.toArray.size != its2.toArray.size) = true := by rw [l1, l2]; simpa using hl
          exact ⟨.lists_lengths ht1 ht2 hs hu', .lists_lengths ht1 ht2 hs hu'⟩
      rw [D.eq]
      refine ⟨both.1, both.2, ?_⟩
      by_cases hpp : p1 = p2
      · subst hpp
        have := rep_inj I _ _ _ rx ry
        cases this
        rw [D.eqs_refl]
        exact .same _
      · exact .of_refs hpp both.1
theorem cmps_at (I : Inv X pins σ H s) : ∀ (ds es : List D) (A : Around) (vs ws : List V) (us1 us2 : List Value), A.units + D.deps ds < cLine → Reps X.K H ds vs → Reps X.K H es ws → Vals vs us1 → Vals ws us2 →
    ∀ (j : Nat) (d e : D) (u1 u2 : Value), ds[j]? = some d → es[j]? = some e → us1[j]? = some u1 → us2[j]? = some u2 → SeqAt.EqAt A s u1 u2 (D.eq d e)
  | [], _, _, _, _, _, _, _, _, _, _, _, j, _, _, _, _, h, _, _, _ => by simp at h
  | _ :: _, [], _, _, _, _, _, _, _, _, _, _, j, _, _, _, _, _, h, _, _ => by simp at h
  | d0 :: ds, e0 :: es, A, vs, ws, us1, us2, hu, r1, r2, v1, v2, j, d, e, u1, u2, h1, h2, h3, h4 => by
    rw [D.deps] at hu
    obtain ⟨x, xr, rfl, a1, a2⟩ := reps_cons.mp r1
    obtain ⟨y, yr, rfl, b1, b2⟩ := reps_cons.mp r2
    cases v1 with
    | cons c1 c2 =>
      cases v2 with
      | cons d1 d2 =>
        cases j with
        | zero =>
          simp at h1 h2 h3 h4
          subst h1 h2 h3 h4
          exact (cmp_at I d0 e0 A x y _ _ (by lia) a1 b1 c1 d1).eq
        | succ j =>
          simp at h1 h2 h3 h4
          exact cmps_at I ds es A xr yr _ _ (by lia) a2 b2 c2 d2 j d e u1 u2 h1 h2 h3 h4
end
end

section
variable {X : Cx} {E : XK} {pos : Pos} {a b : Expr}
def gEq (x y : D) : M D := if x.dep ≤ 60 then .ok (.bl (D.eq x y)) else .bad
def gNe (x y : D) : M D := if x.dep ≤ 60 then .ok (.bl (!D.eq x y)) else .bad
theorem od_eq (hu : X.A.units + 64 < cLine) : OpD X E (compareOp .Eq) gEq := by
  refine ⟨fun x y H Q => ∃ dx dy, Rep X.K H dx x ∧ Rep X.K H dy y ∧ dx.dep ≤ 60 ∧ Q (.bl (D.eq dx dy)) H, fun pins s σ H x y v u Q I rx ry h => ?_, fun Hf H x y dx dy Q e rx ry q => ?_⟩
  · obtain ⟨dx, dy, h1, h2, h3, q⟩ := h
    exact (cmp_at I dx dy X.A x y v u (by lia) h1 h2 rx ry).rc _ _ _ _ ⟨.bl _, H, I, rfl, q⟩
  · unfold gEq at q
    split at q
    · rename_i hd
      exact ⟨dx, dy, rx.mono e, ry.mono e, hd, Po.ret e q (rep_bl.mpr rfl)⟩
    · exact q.elim
theorem od_ne (hu : X.A.units + 64 < cLine) : OpD X E (compareOp .NotEq) gNe := by
  refine ⟨fun x y H Q => ∃ dx dy, Rep X.K H dx x ∧ Rep X.K H dy y ∧ dx.dep ≤ 60 ∧ Q (.bl (!D.eq dx dy)) H, fun pins s σ H x y v u Q I rx ry h => ?_, fun Hf H x y dx dy Q e rx ry q => ?_⟩
  · obtain ⟨dx, dy, h1, h2, h3, q⟩ := h
    exact (cmp_at I dx dy X.A x y v u (by lia) h1 h2 rx ry).ne _ _ _ _ ⟨.bl _, H, I, rfl, q⟩
  · unfold gNe at q
    split at q
    · rename_i hd
      exact ⟨dx, dy, rx.mono e, ry.mono e, hd, Po.ret e q (rep_bl.mpr rfl)⟩
    · exact q.elim
end
end DL

set_option maxHeartbeats 4000000

namespace DL
open PySem PySem.Spec PyProof.Rows L2

/-! ### isinstance against a built-in kind -/
def tyD : D → String
  | .non => "NoneType"
  | .bl _ => "bool"
  | .int _ => "int"
  | .str _ => "str"
  | .tup _ => "tuple"
  | .lst _ => "list"
def isD (T : String) : D → Bool
  | .non => false
  | .bl _ => T == "bool" || T == "int"
  | .int _ => T == "int"
  | .str _ => T == "str"
  | .tup _ => T == "tuple"
  | .lst _ => T == "list"
theorem kit_ok (K : PySem.W.Frag) (d : D) {T : String} (hT : T ∈ ["int", "bool", "tuple", "list", "str"]) : PySem.W.kitOne K (.type (tyD d)) (.type T) = some (isD T d) := by
  simp only [List.mem_cons, List.not_mem_nil, or_false] at hT
  rcases hT with rfl | rfl | rfl | rfl | rfl <;> cases d <;> rfl
section
variable {X : Cx} {E : XK} {pos : Pos} {a b : Expr}
theorem call_isinst {T : String} (hT : T ∈ ["int", "bool", "tuple", "list", "str"]) : CallR X (.builtin "isinstance") (fun xs H Q => ∃ x d, xs = [x, .ty T] ∧ Rep X.K H d x ∧ Q (.bl (isD T d)) H) := by
  intro pins s σ H xs us Q I r h
  obtain ⟨x, d, rfl, hx, q⟩ := h
  obtain ⟨u, w', rfl, r1, r2⟩ := vals2 r
  cases (show w' = Value.type T from r2)
  have e := kit_ok X.K d hT
  have fin : ∀ tk, EP X pins σ Q (.bool (isD T d)) { s with toks := tk } := fun tk => ⟨.bl _, H, I.tok _, rfl, q⟩
  cases d with
  | non => rw [rep_non] at hx; subst hx; cases (show u = Value.none from r1); exact PySem.W.kia_one PySem.W.kitx_none I.kIn True.intro e (fun z => nomatch z) fin
  | bl y => rw [rep_bl] at hx; subst hx; cases (show u = Value.bool y from r1); exact PySem.W.kia_one PySem.W.kitx_bool I.kIn True.intro e (fun z => nomatch z) fin
  | int y => rw [rep_int] at hx; subst hx; obtain ⟨t, z⟩ := (show ∃ t, u = Value.int y t from r1); subst z; exact PySem.W.kia_one PySem.W.kitx_int I.kIn True.intro e (fun z => nomatch z) fin
  | str y => rw [rep_str] at hx; subst hx; obtain ⟨t, z⟩ := (show ∃ t, u = Value.str y t from r1); subst z; exact PySem.W.kia_one PySem.W.kitx_str I.kIn True.intro e (fun z => nomatch z) fin
  | tup ds =>
    obtain ⟨p, ys, rfl, hp, hr⟩ := rep_tupQ hx
    cases (show u = Value.ref p from r1)
    obtain ⟨its, _, ⟨o, h1, h2, _⟩, _⟩ := I.tuple hp
    exact PySem.W.kia_one PySem.W.kitx_tuple I.kIn ⟨o, h1, h2⟩ e (fun z => nomatch z) fin
  | lst ds =>
    obtain ⟨p, ys, rfl, hp, hr⟩ := rep_lst.mp hx
    cases (show u = Value.ref p from r1)
    obtain ⟨its, _, pl, _⟩ := I.list hp
    obtain ⟨o, h1, h2, _⟩ := pl.isList
    exact PySem.W.kia_one PySem.W.kitx_list I.kIn ⟨o, h1, h2⟩ e (fun z => nomatch z) fin
def eIs (T : String) (f : DSt → M D) (sd : DSt) : M D := (f sd).bind fun d => .ok (.bl (isD T d))
theorem pd_isinst (T : String) {p p2 : Pos} {f : DSt → M D} (hg : Gl X "isinstance") (hm : X.mg "isinstance" = none) (hmT : X.mg (Str.ofString T) = none) (hgT : Gl X (Str.ofString T)) (hvT : bootBuiltins (Str.ofString T) = some (.type T)) (h : PEd X E a f)
    (hT : T ∈ ["int", "bool", "tuple", "list", "str"] := by decide) (hnT : (Str.ofString T) ≠ "__name__" := by decide) (hdT : ((Str.ofString T) == ("__debug__" : Str)) = false := by decide)
    (he : starEach [a, .Name (Str.ofString T) p2] X.env = (false, eval a X.env) :: starEach [.Name (Str.ofString T) p2] X.env := by rfl) (he2 : starEach [.Name (Str.ofString T) p2] X.env = (false, eval (.Name (Str.ofString T) p2) X.env) :: starEach [] X.env := by rfl)
    (hpl : (backTo pos (starEach [.Name (Str.ofString T) p2] X.env)).any (·.1) = false := by rfl) (hv : bootBuiltins "isinstance" = some (.builtin "isinstance") := by rfl) :
    PEd X E (.Call (.Name "isinstance" p) [a, .Name (Str.ofString T) p2] [] pos) (eIs T f) := by
  obtain ⟨t, pt, qt⟩ := h
  refine ⟨_, pe_callB (call_isinst hT) hg hm hv (pa_cons pt (pa_cons (pe_bltn (v := .ty T) hgT hmT hvT rfl hnT hdT) pa_nil he2) he) (by decide) (by decide) he hpl, fun H0 B Hf sd σ H Q sr h => ?_⟩
  refine qt H0 B Hf sd σ H _ sr (Po.bind h fun d v Hf1 H1 _ g1 rv h1 => ?_)
  exact ⟨v, d, rfl, Rep.mono g1.sub rv, Po.ret (R := rV X.K) g1.sub h1 (rep_bl.mpr rfl)⟩

/-! ### all, any of a list of truths -/
def boolsOf : List D → Option (List Bool)
  | [] => some []
  | .bl b :: r => (boolsOf r).map (b :: ·)
  | _ :: _ => none
theorem boolsOf_reps {K : PySem.W.Frag} {H : Hp} : ∀ {ds : List D} {bs : List Bool} {xs : List V}, boolsOf ds = some bs → Reps K H ds xs → xs = bs.map V.bl
  | [], bs, xs, e, r => by
    rw [reps_nil.mp r]
    cases e
    rfl
  | .bl b :: ds, bs, xs, e, r => by
    obtain ⟨x, t, rfl, h1, h2⟩ := reps_cons.mp r
    unfold boolsOf at e
    cases q : boolsOf ds with
    | none => rw [q] at e; cases e
    | some cs =>
      rw [q] at e
      cases e
      rw [rep_bl.mp h1, boolsOf_reps q h2]
      rfl
  | .non :: _, _, _, e, _ => by cases e
  | .int _ :: _, _, _, e, _ => by cases e
  | .str _ :: _, _, _, e, _ => by cases e
  | .tup _ :: _, _, _, e, _ => by cases e
  | .lst _ :: _, _, _, e, _ => by cases e
theorem vals_bl {bs : List Bool} : ∀ {us : List Value}, Vals (bs.map V.bl) us → us = bs.map Value.bool := by
  induction bs with
  | nil => intro us r; cases r; rfl
  | cons b bs ih =>
    intro us r
    cases r with
    | cons r1 r2 => rw [ih r2]; cases (show _ = Value.bool b from r1); rfl
theorem range_all' (bs : List Bool) : ((List.range bs.length).all fun i => (bs[i]?).getD true) = bs.all id := by
  induction bs with
  | nil => rfl
  | cons b bs ih =>
    rw [List.length_cons, List.range_succ_eq_map, List.all_cons, List.all_map, List.all_cons]
    have : (((fun i => ((b :: bs)[i]?).getD true) ∘ Nat.succ) : Nat → Bool) = fun i => (bs[i]?).getD true := by funext i; simp
    rw [this, ih]
    simp
theorem kept_it {s : Shared} {h' : Heap} {o : Obj} (hk : ∀ b x, b ∉ [s.heap.objs.size] → (s.heap.push o).get? b = some x → h'.get? b = some x) : ∀ b x, s.heap.get? b = some x → h'.get? b = some x :=
  fun b x e => hk b x (fun hm => by rw [List.mem_singleton.mp hm] at e; exact Nat.lt_irrefl _ (Heap.lt_size e)) (Heap.get?_push_of_some _ e)
theorem call_allB (hc : X.calm = true) : CallR X (.builtin "all") (fun xs H Q => ∃ (p : Addr) (bs : List Bool), xs = [.ref p] ∧ SqL X.K H p (bs.map V.bl) ∧ Q (.bl (bs.all id)) H) := by
  intro pins s σ H xs us Q I r h
  obtain ⟨p, bs, rfl, hp, q⟩ := h
  obtain ⟨u, rfl, rx⟩ := vals1 r
  cases rx
  obtain ⟨its, rv, pl, _⟩ := I.list hp
  have hl := pl.isList
  have ei := vals_bl rv
  have hlt : p < s.heap.objs.size := by obtain ⟨_, e, _⟩ := hl; exact Heap.lt_size e
  refine call_all_walk (wpAny_pyIter_list hl ?_)
  refine ⟨s.heap.objs.size, [s.heap.objs.size, p], [s.heap.objs.size], its.toArray.size, _, _, fun i => (bs[i]?).getD true, rfl, Walks.list (A := X.A.in1) (I.ok.hd hc) _ p (Nat.ne_of_lt hlt) its.toArray,
    ⟨⟨_, Heap.get?_push_size _ rfl, rfl, rfl⟩, hl.push _⟩, fun i v s' Q' E' hP hQ => ?_, fun h' tk hk => ?_⟩
  · have hv : its[i]? = some v := by simpa using hP
    rw [ei, List.getElem?_map] at hv
    cases eb : bs[i]? with
    | none => rw [eb] at hv; cases hv
    | some b =>
      rw [eb] at hv
      cases hv
      simp only [eb, Option.getD_some] at hQ
      exact wpAny_truthy_bool hQ
  · have e : ((List.range its.toArray.size).all fun i => (bs[i]?).getD true) = bs.all id := by
      rw [List.size_toArray, ei, List.length_map]; exact range_all' bs
    rw [e]
    exact ⟨.bl _, H, I.kept (kept_it hk), rfl, q⟩
def bAll : List D → M D
  | [.lst ds] => match boolsOf ds with
    | some bs => .ok (.bl (bs.all id))
    | none => .bad
  | _ => .bad
theorem cd_all (hc : X.calm = true) : CallD X E (.builtin "all") bAll := by
  refine ⟨_, call_allB hc, fun Hf H xs ds Q e r q => ?_⟩
  unfold bAll at q
  split at q
  · split at q
    · rename_i bs hb
      obtain ⟨x, rfl, h⟩ := reps1 r
      obtain ⟨p, ys, rfl, hp, hr⟩ := rep_lst.mp h
      have := boolsOf_reps hb hr
      subst this
      exact ⟨p, bs, rfl, e.seq hp, Po.ret e q (rep_bl.mpr rfl)⟩
    · exact q.elim
  · exact q.elim
/-! ### sorted, of fewer than 64 ints -/
def insI (x : Int) : List Int → List Int
  | [] => [x]
  | y :: r => if x ≤ y then x :: y :: r else y :: insI x r
def sortI : List Int → List Int
  | [] => []
  | x :: r => insI x (sortI r)
theorem insI_perm (x : Int) : ∀ l : List Int, (insI x l).Perm (x :: l)
  | [] => List.Perm.refl _
  | y :: r => by
    unfold insI
    split
    · exact List.Perm.refl _
    · exact ((insI_perm x r).cons y).trans (List.Perm.swap x y r)
theorem sortI_perm : ∀ l : List Int, (sortI l).Perm l
  | [] => List.Perm.refl _
  | x :: r => (insI_perm x _).trans ((sortI_perm r).cons x)
theorem insI_sorted (x : Int) : ∀ l : List Int, l.Pairwise (· ≤ ·) → (insI x l).Pairwise (· ≤ ·)
  | [], _ => by simp [insI]
  | y :: r, h => by
    obtain ⟨h1, h2⟩ := List.pairwise_cons.mp h
    unfold insI
    split
    · rename_i hxy
      refine List.pairwise_cons.mpr ⟨fun z hz => ?_, h⟩
      rcases List.mem_cons.mp hz with rfl | hz
      · exact hxy
      · exact Int.le_trans hxy (h1 z hz)
    · rename_i hxy
      refine List.pairwise_cons.mpr ⟨fun z hz => ?_, insI_sorted x r h2⟩
      rcases List.mem_cons.mp ((insI_perm x r).mem_iff.mp hz) with rfl | hz
      · lia
      · exact h1 z hz
theorem sortI_sorted : ∀ l : List Int, (sortI l).Pairwise (· ≤ ·)
  | [] => List.Pairwise.nil
  | x :: r => insI_sorted x _ (sortI_sorted r)
def intsOf : List D → Option (List Int)
  | [] => some []
  | .int b :: r => (intsOf r).map (b :: ·)
  | _ :: _ => none
theorem intsOf_reps {K : PySem.W.Frag} {H : Hp} : ∀ {ds : List D} {bs : List Int} {xs : List V}, intsOf ds = some bs → Reps K H ds xs → xs = bs.map V.int
  | [], bs, xs, e, r => by
    rw [reps_nil.mp r]
    cases e
    rfl
  | .int b :: ds, bs, xs, e, r => by
    obtain ⟨x, t, rfl, h1, h2⟩ := reps_cons.mp r
    unfold intsOf at e
    cases q : intsOf ds with
    | none => rw [q] at e; cases e
    | some cs =>
      rw [q] at e
      cases e
      rw [rep_int.mp h1, intsOf_reps q h2]
      rfl
  | .non :: _, _, _, e, _ => by cases e
  | .bl _ :: _, _, _, e, _ => by cases e
  | .str _ :: _, _, _, e, _ => by cases e
  | .tup _ :: _, _, _, e, _ => by cases e
  | .lst _ :: _, _, _, e, _ => by cases e
theorem reps_of_ints {K : PySem.W.Frag} {H : Hp} : ∀ ns : List Int, Reps K H (ns.map D.int) (ns.map V.int)
  | [] => Reps.nil
  | _ :: ns => Reps.cons (rep_int.mpr rfl) (reps_of_ints ns)
theorem call_sortedI : CallR X (.builtin "sorted") (fun xs H Q => ∃ (p : Addr) (ns : List Int), xs = [.ref p] ∧ SqL X.K H p (ns.map V.int) ∧ ns.length < 64 ∧ ∀ l, H l = none → Q (.ref l) (upd H l (.lst ((sortI ns).map V.int)))) := by
  intro pins s σ H xs us Q I r h
  obtain ⟨p, ns, rfl, hp, hl, q⟩ := h
  obtain ⟨u, rfl, rx⟩ := vals1 r
  cases rx
  obtain ⟨its, rv, pl, hz⟩ := I.list hp
  have hi : IntsAre its ns := intsAre_of rv
  have hlen : its.length = ns.length := by rw [← rv.length, List.length_map]
  refine sorted_ints pl.isList hi (by lia) fun out ns' a1 a2 a3 => ?_
  have e : ns' = sortI ns := PySem.W.ksm_same (a2.trans (sortI_perm ns).symm) a3 (sortI_sorted ns)
  subst e
  obtain ⟨n, he⟩ := sortedAll_at s.heap its out
  refine ⟨.ref (s.heap.objs.size + 1), _, I.laid (t' := s.toks) (o := .lst ((sortI ns).map V.int)) (fun b o e => sortedAll_old e) (Nat.le_succ _) ?_, rfl, q _ (I.hok.fresh (Nat.le_succ _))⟩
  refine ⟨?_, out.toList, n, vals_ints a1, he⟩
  rw [List.length_map, (sortI_perm ns).length_eq, ← List.length_map (f := V.int)]
  exact hz
def bSorted : List D → M D
  | [.lst ds] => match intsOf ds with
    | some ns => if ns.length < 64 then .ok (.lst ((sortI ns).map D.int)) else .bad
    | none => .bad
  | _ => .bad
theorem cd_sorted : CallD X E (.builtin "sorted") bSorted := by
  refine ⟨_, call_sortedI, fun Hf H xs ds Q e r q => ?_⟩
  unfold bSorted at q
  split at q
  · split at q
    · rename_i ns hb
      split at q
      · rename_i hl
        obtain ⟨x, rfl, h⟩ := reps1 r
        obtain ⟨p, ys, rfl, hp, hr⟩ := rep_lst.mp h
        have := intsOf_reps hb hr
        subst this
        exact ⟨p, ns, rfl, e.seq hp, hl, fun l hl => q _ _ _ (Gr.alloc e hl _) (Gr.lst e hl (reps_of_ints _))⟩
      · exact q.elim
    · exact q.elim
  · exact q.elim

/-! ### + of ints, lists, tuples, texts -/
theorem op_catS : OpR X (binaryOp .Add) (fun x y H Q => ∃ l b xs zs, x = .ref l ∧ y = .ref b ∧ SqL X.K H l xs ∧ SqL X.K H b zs ∧ xs.length + zs.length ≤ sizeLine ∧ ∀ p, H p = none → Q (.ref p) (upd H p (.lst (xs ++ zs)))) := by
  intro pins s σ H x y v u Q I rx ry h
  obtain ⟨l, b, xs, zs, rfl, rfl, hH, hB, hz, q⟩ := h
  cases rx
  cases ry
  obtain ⟨its, r, pl, z⟩ := I.list hH
  obtain ⟨its2, r2, pl2, z2⟩ := I.list hB
  have l1 := r.length
  have l2 := r2.length
  obtain ⟨⟨cls, dd, data, sl⟩, ho, hc, n, hd⟩ := pl.isList
  obtain ⟨⟨cls2, dd2, data2, sl2⟩, ho2, hc2, n2, hd2⟩ := pl2.isList
  simp only at hc hd hc2 hd2
  subst hc hd hc2 hd2
  have e : its.toArray ++ its2.toArray = (its ++ its2).toArray := by simp
  refine concat_meets ⟨_, ho, rfl⟩ ⟨_, ho2, rfl⟩ noFill_list_add seq_list_add PySem.F.slot_list_add PySem.F.entry_list_add (PySem.F.args_list_add_2 _ _) (list_addW l b its.toArray its2.toArray n n2 dd dd2 sl sl2 (by rw [List.size_toArray, List.size_toArray]; lia)) ⟨ho, ho2, ?_⟩
  rw [e]
  exact ⟨.ref _, _, I.lnew (t' := s.toks) (r.append r2) (by rw [List.length_append]; lia), rfl, q _ I.fresh⟩
def gPlus : D → D → M D
  | .int i, .int j => .ok (.int (i + j))
  | .lst xs, .lst ys => if few (xs ++ ys) then .ok (.lst (xs ++ ys)) else .bad
  | .tup (x :: xs), .tup ys => if few (x :: xs ++ ys) then .ok (.tup (x :: xs ++ ys)) else .bad
  | .str i, .str j => if i.length + j.length ≤ sizeLine then .ok (.str (i ++ j)) else .bad
  | _, _ => .bad
theorem od_plus : OpD X E (binaryOp .Add) gPlus := by
  refine ⟨_, op_add.or (op_catS.or (op_catT.or op_add_str)), fun Hf H x y dx dy Q e rx ry q => ?_⟩
  unfold gPlus at q
  split at q
  · rename_i i j
    exact .inl ⟨i, j, rep_int.mp rx, rep_int.mp ry, Po.ret e q (rep_int.mpr rfl)⟩
  · rename_i xs ys
    split at q
    · rename_i hf
      obtain ⟨p1, us, rfl, h1, r1⟩ := rep_lst.mp rx
      obtain ⟨p2, ws, rfl, h2, r2⟩ := rep_lst.mp ry
      have hl := few_line hf (r1.append r2)
      rw [List.length_append] at hl
      exact .inr (.inl ⟨p1, p2, us, ws, rfl, rfl, e.seq h1, e.seq h2, hl, fun p hp => q _ _ _ (Gr.alloc e hp _) (Gr.lst e hp (r1.append r2))⟩)
    · exact q.elim
  · rename_i x0 xs ys
    split at q
    · rename_i hf
      obtain ⟨p1, us, rfl, h1, r1⟩ := rep_tupQ rx
      obtain ⟨p2, ws, rfl, h2, r2⟩ := rep_tupQ ry
      have hl := few_line hf (r1.append r2)
      rw [List.length_append] at hl
      have hne : us ≠ [] := fun z => by
        have := r1.length
        rw [z] at this
        cases this
      refine .inr (.inr (.inl ⟨p1, p2, us, ws, rfl, rfl, Same.seqT e h1, Same.seqT e h2, hne, hl, fun z => ?_, fun _ p hp => q _ _ _ (Gr.alloc e hp _) (Gr.tup e hp (r1.append r2))⟩))
      subst z
      have : ys = [] := List.length_eq_zero_iff.mp r2.length
      subst this
      rw [List.append_nil] at q
      exact Po.ret e q rx
    · exact q.elim
  · rename_i i j
    split at q
    · rename_i hl
      exact .inr (.inr (.inr ⟨i, j, rep_str.mp rx, rep_str.mp ry, hl, Po.ret e q (rep_str.mpr rfl)⟩))
    · exact q.elim
  · exact q.elim
def gTimes : D → D → M D := gMul
theorem od_times : OpD X E (binaryOp .Mult) gTimes := od_mul

/-! ### slices -/
def cutD (ds : List D) (lo hi : Option Int) : List D := (ds.drop (HT.sIx ds.length 0 lo)).take (HT.sIx ds.length ds.length hi - HT.sIx ds.length 0 lo)
theorem cut_reps {K : PySem.W.Frag} {H : Hp} {ds : List D} {xs : List V} (r : Reps K H ds xs) (lo hi : Option Int) : Reps K H (cutD ds lo hi) (cutV xs lo hi) := by
  unfold cutD cutV
  rw [← r.length]
  exact (r.drop _).take _
def gSl : D → Option Int → Option Int → M D
  | .lst ds, lo, hi => .ok (.lst (cutD ds lo hi))
  | .tup ds, lo, hi => if HT.sIx ds.length 0 lo = 0 ∧ HT.sIx ds.length ds.length hi = ds.length then .bad else .ok (.tup (cutD ds lo hi))
  | _, _, _ => .bad
def oNone (_ : DSt) : M (Option Int) := .ok none
def oSome (f : DSt → M D) (sd : DSt) : M (Option Int) := (f sd).bind fun d => match d with
  | .int i => .ok (some i)
  | _ => .bad
theorem pod_none : POd X E none oNone := ⟨_, po_none, fun _ _ _ _ _ _ _ sr h => Po.ret (R := rQ) sr.sub h rfl⟩
theorem pod_some {e : Expr} {f : DSt → M D} (h : PEd X E e f) : POd X E (some e) (oSome f) := by
  obtain ⟨t, p, q⟩ := h
  refine ⟨_, po_some p, fun H0 B Hf sd σ H Q sr h => ?_⟩
  refine q H0 B Hf sd σ H _ sr (Po.bind h fun d v Hf1 H1 _ g1 rv h1 => ?_)
  split at h1
  · exact ⟨_, rep_int.mp rv, Po.ret (R := rQ) g1.sub h1 rfl⟩
  · exact h1.elim
def eSl (f : DSt → M D) (lo hi : DSt → M (Option Int)) (sd : DSt) : M D := (f sd).bind fun d => (lo sd).bind fun l => (hi sd).bind fun h => gSl d l h
theorem pd_slice {e : Expr} {lo hi : Option Expr} {p2 : Pos} {f : DSt → M D} {fl fh : DSt → M (Option Int)} (h : PEd X E e f) (hl : POd X E lo fl) (hh : POd X E hi fh) : PEd X E (.Subscript e (.Slice lo hi none p2) pos) (eSl f fl fh) := by
  obtain ⟨t, p, q⟩ := h
  obtain ⟨tl, pl, ql⟩ := hl
  obtain ⟨th, ph, qh⟩ := hh
  refine ⟨_, pe_slice (sl_list.or sl_tup) p pl ph, fun H0 B Hf sd σ H Q sr h => ?_⟩
  refine q H0 B Hf sd σ H _ sr (Po.bind h fun d v Hf1 H1 _ g1 rv h1 => ?_)
  refine ql H0 B Hf1 sd σ H1 _ (sr.gr g1) (Po.bind h1 fun l l' Hf2 H2 _ g2 el h2 => ?_)
  have el : l = l' := el
  subst el
  refine qh H0 B Hf2 sd σ H2 _ ((sr.gr g1).gr g2) (Po.bind h2 fun u u' Hf3 H3 _ g3 eu h3 => ?_)
  have eu : u = u' := eu
  subst eu
  have rv3 := (Rep.mono g3.fz (Rep.mono g2.fz rv))
  unfold gSl at h3
  split at h3
  · rename_i ds
    obtain ⟨a, xs, rfl, ha, hr⟩ := rep_lst.mp rv3
    exact .inl ⟨a, xs, rfl, g3.sub.seq ha, fun p hp => h3 _ _ _ (Gr.alloc g3.sub hp _) (Gr.lst g3.sub hp (cut_reps hr _ _))⟩
  · rename_i ds
    split at h3
    · exact h3.elim
    · rename_i hw
      obtain ⟨a, xs, rfl, ha, hr⟩ := rep_tupQ rv3
      exact .inr ⟨a, xs, rfl, Same.seqT g3.sub ha, by rw [← hr.length]; exact hw, fun p hp => h3 _ _ _ (Gr.alloc g3.sub hp _) (Gr.tup g3.sub hp (cut_reps hr _ _))⟩
  · exact h3.elim

/-! ### what a loop walks -/
def ItOk (K : PySem.W.Frag) (Hf _H : Hp) (ds : List D) (J : It) : Prop := ∀ (i : Nat) (Hf1 H1 : Hp), Same Hf Hf1 → Same Hf1 H1 → match ds[i]? with
  | some d => J.go i H1 ∧ ∀ x H2, J.yld i H1 x H2 → ∃ Hf2, Gr Hf1 H1 Hf2 H2 ∧ Rep K Hf2 d x
  | none => J.stop i H1
def PId (X : Cx) (E : XK) (tg iter : Expr) (fi : DSt → M (List D)) : Prop :=
  ∃ wi : TI, PI X tg iter wi ∧ ∀ (H0 : Hp) (B : Addr → Prop) (Hf : Hp) (sd : DSt) (σ : L2.St) (H : Hp) (R : It → Hp → Prop), SR X.K H0 B Hf sd σ H → Po X.K E (ItOk X.K) Hf H (fi sd) R → wi σ H R
theorem itl_ok {K : PySem.W.Frag} {Hf H : Hp} {a : Addr} {xs : List V} {ds : List D} (h : SqL K Hf a xs) (r : Reps K Hf ds xs) : ItOk K Hf H ds (Itl K a) := by
  intro i Hf1 H1 e1 e2
  have h2 := e2.seq (e1.seq h)
  cases q : ds[i]? with
  | some d =>
    obtain ⟨x, ex, rx⟩ := r.get q
    refine ⟨⟨xs, x, h2, ex⟩, fun y H2 hy => ?_⟩
    obtain ⟨e, hy⟩ := hy
    subst e
    have ey := hy xs h2
    rw [ex] at ey
    cases ey
    exact ⟨Hf1, Gr.refl e2, rx.mono e1⟩
  | none =>
    refine ⟨xs, h2, ?_⟩
    have := r.none_of q
    exact List.getElem?_eq_none_iff.mp this
theorem itt_ok {K : PySem.W.Frag} {Hf H : Hp} {a : Addr} {xs : List V} {ds : List D} (h : SqT K Hf a xs) (r : Reps K Hf ds xs) : ItOk K Hf H ds (Itt K a) := by
  intro i Hf1 H1 e1 e2
  have h2 := Same.seqT e2 (Same.seqT e1 h)
  cases q : ds[i]? with
  | some d =>
    obtain ⟨x, ex, rx⟩ := r.get q
    refine ⟨⟨xs, x, h2, ex⟩, fun y H2 hy => ?_⟩
    obtain ⟨e, hy⟩ := hy
    subst e
    have ey := hy xs h2
    rw [ex] at ey
    cases ey
    exact ⟨Hf1, Gr.refl e2, rx.mono e1⟩
  | none =>
    refine ⟨xs, h2, ?_⟩
    have := r.none_of q
    exact List.getElem?_eq_none_iff.mp this
def rangeD (lo : Int) (n : Nat) : List D := (List.range n).map fun k => .int (lo + (k : Nat))
theorem itr_ok {K : PySem.W.Frag} {Hf H : Hp} (lo : Int) (n : Nat) : ItOk K Hf H (rangeD lo n) (Itr lo n) := by
  intro i Hf1 H1 e1 e2
  unfold rangeD
  rw [List.getElem?_map]
  by_cases hi : i < n
  · rw [List.getElem?_range hi]
    refine ⟨hi, fun y H2 hy => ?_⟩
    obtain ⟨e, hy⟩ := hy
    subst e
    exact ⟨Hf1, Gr.refl e2, rep_int.mpr hy⟩
  · rw [List.getElem?_eq_none (by simpa using hi)]
    exact Nat.le_of_not_lt hi
def iSeq (f : DSt → M D) (sd : DSt) : M (List D) := (f sd).bind fun d => match d with
  | .lst ds => .ok ds
  | .tup ds => .ok ds
  | _ => .bad
theorem pi_seq {tg l : Expr} {tl : TE} (hl : PE X l tl) : PI X tg l (fun σ H R => tl σ H fun x H1 => (∃ a, x = .ref a ∧ (∃ xs, SqL X.K H1 a xs) ∧ R (Itl X.K a) H1) ∨ ∃ a, x = .ref a ∧ (∃ xs, SqT X.K H1 a xs) ∧ R (Itt X.K a) H1) := by
  intro pins s σ H R I h
  refine thn (hl pins s σ H _ I h) fun v s1 ⟨x, H1, I1, r1, q1⟩ => ?_
  rcases q1 with ⟨a, e, ⟨xs, hq⟩, q⟩ | ⟨a, e, ⟨xs, hq⟩, q⟩
  · subst e
    cases r1
    obtain ⟨its, rv, p, hz⟩ := I1.list hq
    refine wpAny_pyIter_list p.isList ?_
    refine ⟨s1.heap.objs.size, [s1.heap.objs.size], _, _, H1, rfl, I1.kept (t' := s1.toks) fun b o e => Heap.get?_push_of_some _ e, turn_list a _, ⟨_, Heap.get?_push_size _ rfl, rfl, rfl⟩, fun b hb => ?_, q⟩
    have e : b = s1.heap.objs.size := by simpa using hb
    subst e
    exact I1.fpOk (Nat.le_refl _) (I1.hok.fresh (Nat.le_refl _))
  · subst e
    cases r1
    obtain ⟨its, rv, p, hz⟩ := I1.tuple hq
    refine wpAny_pyIter_tuple (show s1.heap.IsTuple a its.toArray from p) ?_
    refine ⟨s1.heap.objs.size, [s1.heap.objs.size], _, _, H1, rfl, I1.kept (t' := s1.toks) fun b o e => Heap.get?_push_of_some _ e, turn_tuple a _, ⟨_, Heap.get?_push_size _ rfl, rfl, rfl⟩, fun b hb => ?_, q⟩
    have e : b = s1.heap.objs.size := by simpa using hb
    subst e
    exact I1.fpOk (Nat.le_refl _) (I1.hok.fresh (Nat.le_refl _))
theorem pid_seq {tg l : Expr} {f : DSt → M D} (h : PEd X E l f) : PId X E tg l (iSeq f) := by
  obtain ⟨t, p, q⟩ := h
  refine ⟨_, pi_seq p, fun H0 B Hf sd σ H R sr h => ?_⟩
  refine q H0 B Hf sd σ H _ sr (Po.bind h fun d v Hf1 H1 _ g1 rv h1 => ?_)
  split at h1
  · rename_i ds
    obtain ⟨a, xs, rfl, ha, hr⟩ := rep_lst.mp rv
    exact .inl ⟨a, rfl, ⟨xs, g1.sub.seq ha⟩, Po.ret (R := ItOk X.K) g1.sub h1 (itl_ok ha hr)⟩
  · rename_i ds
    obtain ⟨a, xs, rfl, ha, hr⟩ := rep_tupQ rv
    exact .inr ⟨a, rfl, ⟨xs, Same.seqT g1.sub ha⟩, Po.ret (R := ItOk X.K) g1.sub h1 (itt_ok ha hr)⟩
  · exact h1.elim
def iRange1 (fs : DSt → M (List D)) (sd : DSt) : M (List D) := (fs sd).bind fun ds => match ds with
  | [.int j] => if -1000000 ≤ j ∧ j ≤ 1000000 then .ok (rangeD 0 j.toNat) else .bad
  | _ => .bad
theorem pid_range1 {tg a : Expr} {p : Pos} {fs : DSt → M (List D)} (hg : Gl X "range") (hm : X.mg "range" = none) (h : PAd X E [a] fs) (hs : starEach [a] X.env = [(false, eval a X.env)] := by rfl) : PId X E tg (.Call (.Name "range" p) [a] [] pos) (iRange1 fs) := by
  obtain ⟨t, pt, q⟩ := h
  refine ⟨_, pi_range1 hg hm pt hs, fun H0 B Hf sd σ H R sr h => ?_⟩
  refine q H0 B Hf sd σ H _ sr (Po.bind h fun ds vs Hf1 H1 _ g1 rs h1 => ?_)
  split at h1
  · split at h1
    · rename_i hj
      obtain ⟨v, rfl, rv⟩ := reps1 rs
      rw [rep_int.mp rv]
      exact ⟨_, rfl, by lia, by lia, Po.ret (R := ItOk X.K) g1.sub h1 (itr_ok 0 _)⟩
    · exact h1.elim
  · exact h1.elim
def loopD (g : D → DSt → M DSt) (f : DSt → M O) : List D → DSt → M O
  | [], sd => .ok (.nx sd)
  | d :: r, sd => match g d sd with
    | .ok sd1 => (f sd1).bind fun o => match o with
      | .nx sd2 => loopD g f r sd2
      | .ct sd2 => loopD g f r sd2
      | .bk sd2 => .ok (.nx sd2)
      | .rt s => .ok (.rt s)
    | _ => .bad
def sFor (fi : DSt → M (List D)) (g : D → DSt → M DSt) (f : DSt → M O) (sd : DSt) : M O := (fi sd).bind fun ds => loopD g f ds sd
theorem psd_for {tg iter : Expr} {body : List Stmt} {fi : DSt → M (List D)} {g : D → DSt → M DSt} {f : DSt → M O} (hp : PassesOwn (model X.prog X.w) X.A X.env X.xe) (hc : X.calm = true) (hi : PId X E tg iter fi) (hg : PGd X tg g) (hb : PSsd X E body f)
    (hs : ∀ x, foldedSetIterable iter X.env x = pure x := by intro _; rfl) : PSd X E (.For tg iter body [] pos) (sFor fi g f) := by
  obtain ⟨wi, pw, qw⟩ := hi
  obtain ⟨tg', pg, qg⟩ := hg
  obtain ⟨tb, pb, qb⟩ := hb
  refine ⟨_, ps_for hp hc pw pg pb hs, fun H0 B Hf sd σ H D sr h => ?_⟩
  refine qw H0 B Hf sd σ H _ sr (PoS.bind sr h fun ds J Hf1 H1 _ g1 sr1 J1 h1 => ?_)
  refine ⟨fun i m σ' H' => m = ds.length - i ∧ ∃ Hf' sd', Same Hf1 Hf' ∧ SR X.K H0 B Hf' sd' σ' H' ∧ PoS X.K E H0 B Hf' (loopD g f (ds.drop i) sd') D, ⟨ds.length, by simp, Hf1, sd, Same.refl _, sr1, by simpa using h1⟩, ?_⟩
  rintro i m σ2 H2 ⟨rfl, Hf2, sd2, e2, sr2, h2⟩
  have jj := J1 i Hf2 H2 e2 sr2.sub
  cases q : ds[i]? with
  | none =>
    rw [q] at jj
    refine .inl ⟨jj, ?_⟩
    rw [List.drop_eq_nil_of_le (List.getElem?_eq_none_iff.mp q)] at h2
    exact h2 σ2 Hf2 H2 (Same.refl _) sr2
  | some d =>
    rw [q] at jj
    obtain ⟨go, yl⟩ := jj
    have hlt : i < ds.length := (List.getElem?_eq_some_iff.mp q).1
    have hd : ds.drop i = d :: ds.drop (i + 1) := by
      rw [List.drop_eq_getElem_cons hlt]
      congr 1
      exact (List.getElem?_eq_some_iff.mp q).2
    rw [hd] at h2
    refine .inr ⟨go, fun σ' H' => ∃ Hf' sd', Same Hf1 Hf' ∧ SR X.K H0 B Hf' sd' σ' H' ∧ PoS X.K E H0 B Hf' (loopD g f (ds.drop (i + 1)) sd') D, fun σ' H' w => ⟨ds.length - (i + 1), by lia, rfl, w⟩, fun x H3 y3 => ?_⟩
    obtain ⟨Hf3, g3, rx⟩ := yl x H3 y3
    have sr3 := sr2.gr g3
    unfold loopD at h2
    split at h2
    · rename_i sd3 eg
      refine qg H0 B Hf3 sd2 σ2 H3 x d sd3 _ sr3 rx eg fun σ4 sr4 => ?_
      refine qb H0 B Hf3 sd3 σ4 H3 _ sr4 ?_
      have h2 := PoS.weak g3.fz h2
      cases ef : f sd3 with
      | ok o =>
        rw [ef] at h2
        cases o with
        | nx sd' => exact fun σ' Hf' H' e' sr' => ⟨Hf', sd', e2.trans (g3.fz.trans e'), sr', PoS.weak e' h2⟩
        | ct sd' => exact fun σ' Hf' H' e' sr' => ⟨Hf', sd', e2.trans (g3.fz.trans e'), sr', PoS.weak e' h2⟩
        | bk sd' => exact h2
        | rt s => exact h2
      | ex x => rw [ef] at h2; exact h2
      | bad => rw [ef] at h2; exact h2
    · exact h2.elim
end
end DL

set_option maxHeartbeats 4000000

namespace DL
open PySem PySem.Spec PyProof.Rows L2

/-! ### comprehensions -/
theorem codeAny_comp_any {prog : Program} {w : World} {A : Around} {R : Result → Shared → Prop} {s : Shared} {elt target iter : Expr} {scope : Scope} {pos : Pos} {it acc : Value} {env : Env} (I : Nat → Shared → Prop)
    (turn : ∀ n s, I n s → wpAny (model prog w) A (pyNext it) (fun r s₁ => match r with
      | none => R (.ok .next) s₁
      | some v => wpAny (model prog w) A (letOwnedTupleGo target it v) (fun _ s₂ => wpAny (model prog w) A (assign target env v) (fun _ s₃ => wpAny (model prog w) A (eval elt env) (fun x s₄ =>
          wpAny (model prog w) A (call (.builtin "list.append") [acc, x]) (fun _ s₅ => ∃ m, m < n ∧ I m s₅) (fun _ _ => False) s₄) (fun _ _ => False) s₃) (fun _ _ => False) s₂) (fun _ _ => False) s₁) (fun _ _ => False) s)
    (n : Nat) (h : I n s) :
    codeAny (model prog w) A (.compLoop (.ListComp elt [⟨target, iter, [], 0⟩] scope pos) 0 it acc env) R s := by
  refine codeAny_loop rfl I (fun n s hI => ?_) n h
  show wpAny _ A ((compTurn (.ListComp elt [⟨target, iter, [], 0⟩] scope pos) 0 it acc env).onRaise (fun x => do noteFrame x env; theTreesLotGoes x)) _ _ s
  refine wpAny_noted ?_
  rw [compTurn_list]
  refine wpAny_bind (wpAny_standAt (wpAny_bind (wpAny_mono (turn n s hI) (fun r s₁ h₁ => ?_) fun _ _ h' => h'.elim)))
  cases r with
  | none => exact wpAny_pure h₁
  | some v =>
    refine wpAny_bind (wpAny_mono h₁ (fun _ s₂ h₂ => ?_) fun _ _ h' => h'.elim)
    refine wpAny_bind (wpAny_mono h₂ (fun _ s₃ h₃ => ?_) fun _ _ h' => h'.elim)
    refine wpAny_bind (wpAny_tests_nil ?_)
    exact wpAny_bind (wpAny_bind (wpAny_mono h₃ (fun x s₄ h₄ => wpAny_bind (wpAny_mono h₄ (fun _ s₅ h₅ => wpAny_pure (wpAny_pure ⟨rfl, h₅⟩)) fun _ _ h' => h'.elim)) fun _ _ h' => h'.elim))

/-- the context of a comprehension's block -/
def compCx (X : Cx) (Nc : List Str) (scope : Scope) (cl : List (Str × Addr)) (s3 : Shared) (H3 : Hp) (C : Addr) (ex : List Addr) : Cx :=
  { X with N := Nc, s₀ := s3, H₀ := H3, env := compEnvC scope cl C X.env, outer := X.stack, stack := X.stack, ex := ex, fn := fun _ => false, pn := [], xe := fun _ _ => False }

/-- what the block sees of the def's names -/
structure CapOk (X : Cx) (Nc : List Str) (n0 : Nat) (caps : List Nat) (scope : Scope) (cl : List (Str × Addr)) : Prop where
  sub : ∀ y c, cl.lookup y = some c → X.env.cells.lookup y = some c
  has : ∀ y, (relabel scope X.env).names.lookup y = some .cell ∨ (relabel scope X.env).names.lookup y = some .free → ∃ c, cl.lookup y = some c
  cap : ∀ (i j : Nat) (x : Str), Nc[n0 + i]? = some x → caps[i]? = some j → X.N[j]? = some x ∧ X.env.scope.names.lookup x = some .cell ∧ (relabel scope X.env).names.lookup x = some .cell
  len : Nc.length = n0 + caps.length

def lstObj : Obj := { cls := .type "list", dict := none, data := .seq ([] : List Value).toArray }
section
variable {X : Cx} {pins : List (Addr × Obj)} {σ : L2.St} {H2 : Hp} {s2 : Shared} {Nc : List Str} {n0 : Nat} {caps : List Nat} {scope : Scope} {cl : List (Str × Addr)} {fp : List Addr}
theorem comp_inv (I2 : Inv X pins σ H2 s2) (f2 : ∀ b ∈ fp, FpOk X pins H2 b) (hold : ∀ b ∈ fp, ∃ o, s2.heap.get? b = some o) (hkind : scope.kind = .function) (cap : CapOk X Nc n0 caps scope cl) {h1 : Heap} {m0 : Str → Option Value} {tk : Nat}
    (hns : h1.Ns (s2.heap.objs.size + 1) m0) (hold1 : ∀ b o, s2.heap.get? b = some o → h1.get? b = some o) (hD : h1.get? s2.heap.objs.size = some lstObj) :
    Inv (compCx X Nc scope cl { s2 with heap := s2.heap.push lstObj } (upd H2 s2.heap.objs.size (.lst [])) (s2.heap.objs.size + 1) fp) [] (List.replicate n0 none ++ caps.map fun j => (σ[j]?).join) (upd H2 s2.heap.objs.size (.lst [])) { s2 with heap := h1, toks := tk } := by
  have fresh : H2 s2.heap.objs.size = none := I2.hok.fresh (Nat.le_refl _)
  have freshC : H2 (s2.heap.objs.size + 1) = none := I2.hok.fresh (Nat.le_succ _)
  have sz : (s2.heap.push lstObj).objs.size = s2.heap.objs.size + 1 := Heap.size_push _ _
  have lt : ∀ {b : Addr} {o : Obj}, s2.heap.get? b = some o → b < s2.heap.objs.size := fun e => Heap.lt_size e
  have ne0 : ∀ {b : Addr} {o : Obj}, s2.heap.get? b = some o → b ≠ s2.heap.objs.size := fun e => Nat.ne_of_lt (lt e)
  have clt : ∀ y c, cl.lookup y = some c → c < s2.heap.objs.size := fun y c e => by
    obtain ⟨v, q⟩ := I2.cell y c (cap.sub y c e)
    exact q.lt
  have frl : ∀ b ∈ frs X.stack, b < s2.heap.objs.size := fun b hb => by
    obtain ⟨_, o, ho, _⟩ := I2.stack.mem hb
    exact lt ho
  have kp : ∀ b o, (s2.heap.push lstObj).get? b = some o → h1.get? b = some o := fun b o e => by
    by_cases hb : b = s2.heap.objs.size
    · subst hb
      rw [Heap.get?_push_size _ rfl] at e
      cases e
      exact hD
    · rw [Heap.get?_push_ne _ _ _ hb] at e
      exact hold1 b o e
  have hok3 : HOk X.prog X.w (upd H2 s2.heap.objs.size (.lst [])) h1 := I2.hok.laid hold1 (Nat.le_refl _) ⟨Nat.zero_le _, [], 0, .nil, hD⟩
  refine ⟨⟨I2.ok.mod, ?_, I2.ok.glob, I2.ok.blt, ?_, ?_, ?_, ?_, I2.ok.hd, I2.ok.frames, .inl rfl, ?_, ?_, ?_, ?_, ?_, ?_, ?_⟩, rfl, I2.bare, ?_, ⟨m0, hns, ?_⟩, ?_, ?_, ?_, ?_, hok3, ?_⟩
  · show (relabel scope X.env).kind = .function
    exact hkind
  · show (s2.heap.push lstObj).objs.size ≤ s2.heap.objs.size + 1
    rw [sz]; exact Nat.le_refl _
  · intro x y c h1 h2
    exact I2.ok.inj x y c (cap.sub x c h1) (cap.sub y c h2)
  · intro x h
    exact cap.has x h
  · intro x c h
    cases h
  · intro b hb
    refine ⟨?_, fun x c e => ?_⟩
    · obtain ⟨o, e⟩ := hold b hb
      exact Nat.ne_of_lt (Nat.lt_succ_of_lt (lt e))
    · exact (f2 b hb).2.2.2.2.1 x c (cap.sub x c e)
  · intro b o e
    obtain ⟨q1, q2⟩ := I2.bs b o e
    exact ⟨Heap.get?_push_of_some _ q1, (upd_ne (ne0 q1)).trans q2⟩
  · show X.base.objs.size ≤ (s2.heap.push lstObj).objs.size
    rw [sz]
    exact Nat.le_succ_of_le (Nat.le_trans I2.ok.bsz I2.sz)
  · intro b o e hb
    obtain ⟨_, _, _, f4, _, _⟩ := f2 b hb
    rcases f4 with z | z
    · exact I2.ok.noex b o e z
    · exact absurd (Nat.lt_of_lt_of_le (Nat.lt_of_lt_of_le (Heap.lt_size e) I2.ok.bsz) z) (Nat.lt_irrefl _)
  · intro b hb hz
    rcases List.mem_cons.mp (I2.stkSub b hz) with e | hz
    · exact (f2 b hb).2.1 e
    · exact (f2 b hb).2.2.1 hz
  · exact I2.stack.of_keeps fun b o e _ => ⟨o, Heap.get?_push_of_some _ e, rfl⟩
  · intro b hb
    show upd H2 s2.heap.objs.size (.lst []) b = none
    rw [upd_ne (Nat.ne_of_lt (frl b hb))]
    exact I2.stkFree b hb
  · exact Un.kept kp
  · intro i x v e1 e2 e3
    have hi : n0 ≤ i := by
      refine Nat.le_of_not_lt fun hlt => ?_
      rw [List.getElem?_append_left (by simpa using hlt), List.getElem?_replicate] at e2
      split at e2 <;> cases e2
    obtain ⟨k, rfl⟩ := Nat.exists_eq_add_of_le hi
    rw [List.getElem?_append_right (by simp), List.length_replicate, Nat.add_sub_cancel_left, List.getElem?_map] at e2
    cases ej : caps[k]? with
    | none => rw [ej] at e2; cases e2
    | some j =>
      rw [ej] at e2
      have e2 : (σ[j]?).join = some v := by simpa using e2
      have es : σ[j]? = some (some v) := by
        cases z : σ[j]? with
        | none => rw [z] at e2; cases e2
        | some q => rw [z] at e2; have : q = some v := e2; rw [this]
      obtain ⟨a1, a2, a3⟩ := cap.cap k j x e1 ej
      obtain ⟨m, hn, hl⟩ := I2.loc
      obtain ⟨u, ru, lk⟩ := hl j x v a1 es (.inr (.inl a2))
      refine ⟨u, ru, ?_⟩
      rcases lk with ⟨z, _⟩ | ⟨_, c, ec, cell⟩
      · have z : X.env.scope.names.lookup x = some .local := z
        rw [a2] at z; cases z
      · obtain ⟨c', ec'⟩ := cap.has x (.inl a3)
        have := cap.sub x c' ec'
        rw [ec] at this
        cases this
        obtain ⟨o, ho, hd⟩ := cell
        exact .inr ⟨.inl a3, c, ec', o, hold1 _ _ ho, hd⟩
  · intro x c e
    obtain ⟨v, o, ho, hd⟩ := I2.cell x c (cap.sub x c e)
    exact ⟨v, o, hold1 _ _ ho, hd⟩
  · show upd H2 s2.heap.objs.size (.lst []) (s2.heap.objs.size + 1) = none
    rw [upd_ne (Nat.ne_of_gt (Nat.lt_succ_self _))]
    exact freshC
  · intro x c e
    show upd H2 s2.heap.objs.size (.lst []) c = none
    rw [upd_ne (Nat.ne_of_lt (clt x c e))]
    exact I2.freeC x c (cap.sub x c e)
  · intro p hp
    exact absurd (show p ∈ ([] : List (Addr × Obj)) from hp) (by simp)
  · rw [List.length_append, List.length_replicate, List.length_map]
    exact cap.len.symm

/-- back from the block -/
theorem comp_back (I2 : Inv X pins σ H2 s2) (f2 : ∀ b ∈ fp, FpOk X pins H2 b) {σ' : L2.St} {H' : Hp} {s' : Shared} {h' : Heap}
    (J : Inv (compCx X Nc scope cl { s2 with heap := s2.heap.push lstObj } (upd H2 s2.heap.objs.size (.lst [])) (s2.heap.objs.size + 1) fp) [] σ' H' s') (sb : Heap.SameBut (s2.heap.objs.size + 1) s'.heap h') :
    Inv X pins σ H' { s' with heap := h' } := by
  have I3 : Inv X pins σ (upd H2 s2.heap.objs.size (.lst [])) { s2 with heap := s2.heap.push lstObj } := I2.laid (t' := s2.toks) (fun b u e => Heap.get?_push_of_some _ e) (Nat.le_refl _) ⟨Nat.zero_le _, [], 0, .nil, Heap.get?_push_size _ rfl⟩
  have sz : (s2.heap.push lstObj).objs.size = s2.heap.objs.size + 1 := Heap.size_push _ _
  have same : ∀ {b : Addr} {o : Obj}, (s2.heap.push lstObj).get? b = some o → h'.get? b = s'.heap.get? b := fun {b o} e => sb.2 b (by
    have := Heap.lt_size e
    rw [sz] at this
    exact Nat.ne_of_lt this)
  have u : Un (frs X.stack) fp (upd H2 s2.heap.objs.size (.lst [])) H' (s2.heap.push lstObj) s'.heap := J.base
  refine I3.call' (s' := { s' with heap := h' }) (ch := fp) J.os ⟨fun b o e n h1 h2 => ?_, fun b o e n h1 h2 => ?_, u.free, fun b o e h1 => ?_, u.tups, u.frzs, u.tbls⟩ (fun b ob e => ?_) J.bare fun b hb => ?_
  · show h'.get? b = _
    rw [same e]; exact u.keep b o e n h1 h2
  · show ∃ sl, h'.get? b = _
    rw [same e]; exact u.slot b o e n h1 h2
  · show ∃ o', h'.get? b = _
    rw [same e]; exact u.there b o e h1
  · have fr : H' (s2.heap.objs.size + 1) = none := J.free
    refine (J.hok b ob e).stay (fun c w hc q => ?_) (fun _ q => q) (fun _ _ q => q) fun _ _ _ q => q
    refine (sb.2 c ?_).trans q
    rintro rfl
    rcases hc with rfl | hc
    · rw [fr] at e; cases e
    · rw [fr] at hc; cases hc
  · obtain ⟨f0, f1, _, f3, f4, f5⟩ := f2 b hb
    exact ⟨f3, f1, f4, f5⟩
end

def capS : Option S → Option S
  | some (.im d) => some (.im d)
  | _ => none
def sdC (n0 : Nat) (caps : List Nat) (sd : DSt) : DSt := List.replicate n0 none ++ caps.map fun j => capS (sd[j]?).join
def mapD (gt : D → DSt → M DSt) (fe : DSt → M D) (sd0 : DSt) : List D → M (List D)
  | [] => .ok []
  | d :: ds => match gt d sd0 with
    | .ok sd1 => match fe sd1 with
      | .ok e => match mapD gt fe sd0 ds with
        | .ok es => .ok (e :: es)
        | _ => .bad
      | _ => .bad
    | _ => .bad
def fComp (fi : DSt → M (List D)) (n0 : Nat) (caps : List Nat) (gt : D → DSt → M DSt) (fe : DSt → M D) (sd : DSt) : M (List D) := (fi sd).bind fun ds => if few ds then mapD gt fe (sdC n0 caps sd) ds else .bad
/-! ### an expression whose value is a new list -/
def PoF (K : PySem.W.Frag) (E : XK) (Hf H : Hp) (r : M (List D)) (Q : VK) : Prop := match r with
  | .ok ds => ∀ p xs Hf' H', Gr Hf H Hf' H' → H p = none → Hf' p = none → H' p = some (.lst xs) → Reps K Hf' ds xs → Q (.ref p) H'
  | .ex x => ∀ c dx Hf' H', Gr Hf H Hf' H' → RepX K Hf' H' x c dx → E c dx H'
  | .bad => False
def PFd (X : Cx) (E : XK) (e : Expr) (f : DSt → M (List D)) : Prop :=
  ∃ t : TE, PE X e t ∧ ∀ (H0 : Hp) (B : Addr → Prop) (Hf : Hp) (sd : DSt) (σ : L2.St) (H : Hp) (Q : VK), SR X.K H0 B Hf sd σ H → PoF X.K E Hf H (f sd) Q → t σ H Q
theorem PoF.weak {K : PySem.W.Frag} {E : XK} {Hf H Hf1 H1 : Hp} {r : M (List D)} {Q : VK} (g : Gr Hf H Hf1 H1) (h : PoF K E Hf H r Q) : PoF K E Hf1 H1 r Q := by
  cases r with
  | ok a => exact fun p xs Hf' H' g' e1 e2 e3 e4 => h p xs Hf' H' (g.trans g') (g.all.free e1) e2 e3 e4
  | ex x => exact fun c dx Hf' H' g' q => h c dx Hf' H' (g.trans g') q
  | bad => exact h
theorem PoF.bind {K : PySem.W.Frag} {E : XK} {Hf H : Hp} {α β : Type} {R : Hp → Hp → α → β → Prop} {r : M α} {k : α → M (List D)} {Q : VK} {Q1 : β → Hp → Prop} (h : PoF K E Hf H (r.bind k) Q)
    (s : ∀ a b Hf1 H1, r = .ok a → Gr Hf H Hf1 H1 → R Hf1 H1 a b → PoF K E Hf1 H1 (k a) Q → Q1 b H1) : Po K E R Hf H r Q1 := by
  cases r with
  | ok a => exact fun b Hf' H' g q => s a b Hf' H' rfl g q (PoF.weak g h)
  | ex x => exact h
  | bad => exact h
def eNew (f : DSt → M (List D)) (sd : DSt) : M D := (f sd).bind fun ds => .ok (.lst ds)
/-- the new list frozen at once -/
theorem pd_new {X : Cx} {E : XK} {e : Expr} {f : DSt → M (List D)} (h : PFd X E e f) : PEd X E e (eNew f) := by
  obtain ⟨t, p, q⟩ := h
  refine ⟨t, p, fun H0 B Hf sd σ H Q sr h => q H0 B Hf sd σ H Q sr ?_⟩
  unfold eNew at h
  cases e : f sd with
  | ok ds =>
    rw [e] at h
    intro p xs Hf' H' g e1 e2 e3 e4
    refine h _ (upd Hf' p (.lst xs)) H' ⟨g.fz.trans (same_upd e2 _), fun b u z => ?_, g.all, fun a h1 h2 => ?_⟩ (rep_lst.mpr ⟨p, xs, rfl, SqL.of upd_same, e4.mono (same_upd e2 _)⟩)
    · by_cases hb : b = p
      · subst hb; rw [upd_same] at z; rw [e3]; exact z
      · rw [upd_ne hb] at z; exact g.sub b u z
    · have : a ≠ p := fun z => h1.nn (z ▸ e1)
      rw [upd_ne this]; exact g.ban a h1 h2
  | ex x => rw [e] at h; exact h
  | bad => rw [e] at h; exact h
theorem mapD_noex {gt : D → DSt → M DSt} {fe : DSt → M D} {sd0 : DSt} {x : XV} : ∀ {ds : List D}, mapD gt fe sd0 ds = .ex x → False
  | [], h => by cases h
  | d :: ds, h => by
    unfold mapD at h
    split at h
    · split at h
      · split at h <;> cases h
      · cases h
    · cases h
theorem SR.ofIm {K : PySem.W.Frag} {Hf H : Hp} {sd : DSt} {σ : L2.St} (e : Same Hf H) (hl : sd.length = σ.length) (him : ∀ (i : Nat) (d : D), sd[i]? = some (some (.im d)) → ∃ v, σ[i]? = some (some v) ∧ Rep K Hf d v) (hno : ∀ (i : Nat) (t : S), sd[i]? = some (some t) → ∃ d, t = .im d) :
    SR K H (fun a => Lv H a ∧ Hf a = none) Hf sd σ H :=
  ⟨e, Same.refl _, fun _ h => h.2, fun _ h => h.1, hl, fun i t h _ => (by obtain ⟨d, rfl⟩ := hno i t h; exact him i d h), fun i t h ho => (by obtain ⟨d, rfl⟩ := hno i t h; cases ho), fun i _ t _ _ _ h ho _ _ _ _ => (by obtain ⟨d, rfl⟩ := hno i t h; cases ho)⟩
theorem sdC_lt {n0 : Nat} {caps : List Nat} {sd : DSt} {i : Nat} {s : S} (h : (sdC n0 caps sd)[i]? = some (some s)) : n0 ≤ i := by
  refine Nat.le_of_not_lt fun hlt => ?_
  unfold sdC at h
  rw [List.getElem?_append_left (by simpa using hlt), List.getElem?_replicate] at h
  split at h <;> cases h
theorem sdC_at {n0 : Nat} {caps : List Nat} {sd : DSt} {i : Nat} {s : S} (h : (sdC n0 caps sd)[i]? = some (some s)) : ∃ k j d, i = n0 + k ∧ caps[k]? = some j ∧ sd[j]? = some (some (.im d)) ∧ s = .im d := by
  obtain ⟨k, rfl⟩ := Nat.exists_eq_add_of_le (sdC_lt h)
  unfold sdC at h
  rw [List.getElem?_append_right (by simp), List.length_replicate, Nat.add_sub_cancel_left, List.getElem?_map] at h
  cases ej : caps[k]? with
  | none => rw [ej] at h; cases h
  | some j =>
    rw [ej] at h
    have h : capS (sd[j]?).join = some s := by simpa using h
    cases z : sd[j]? with
    | none => rw [z] at h; cases h
    | some q =>
      rw [z] at h
      cases q with
      | none => cases h
      | some q =>
        cases q with
        | im d => cases h; exact ⟨k, j, d, rfl, ej, z, rfl⟩
        | ow _ => cases h
        | od _ => cases h
        | dk _ => cases h
        | xc _ => cases h
        | fn _ => cases h
theorem sdC_no {n0 : Nat} {caps : List Nat} {sd : DSt} (i : Nat) (t : S) (h : (sdC n0 caps sd)[i]? = some (some t)) : ∃ d, t = .im d := by
  obtain ⟨_, _, d, _, _, _, e⟩ := sdC_at h
  exact ⟨d, e⟩
/-- the targets of a comprehension's block touch the first n0 names alone -/
def Keep (n0 : Nat) (gt : D → DSt → M DSt) : Prop := ∀ d sd sd1, gt d sd = .ok sd1 → sd1.length = sd.length ∧ (∀ i : Nat, n0 ≤ i → sd1[i]? = sd[i]?) ∧ True
theorem keep_name {n0 k : Nat} (h : k < n0) : Keep n0 (gNm k) := fun d sd sd1 e => by
  cases e
  exact ⟨List.length_set, fun i hi => List.getElem?_set_ne (by lia), trivial⟩

theorem pfd_comp {X : Cx} {E : XK} {pos : Pos} {tg elt iter : Expr} {scope : Scope} {Nc : List Str} {n0 : Nat} {caps : List Nat} {cl : List (Str × Addr)} {fi : DSt → M (List D)} {gt : D → DSt → M DSt} {fe : DSt → M D}
    (hc : X.calm = true) (hclos : closureFor scope X.env = pure cl) (cap : CapOk X Nc n0 caps scope cl) (hkind : scope.kind = .function) (hcell : ∀ y ∈ scope.names, y.2 ≠ .cell) (hnames : ∀ y ∈ scope.names, y.2 = .local → scope.names.lookup y.1 = some .local)
    (hk : Keep n0 gt) (hi : PId X E tg iter fi) (hg : ∀ s3 H3 C ex, PGd (compCx X Nc scope cl s3 H3 C ex) tg gt) (he : ∀ s3 H3 C ex, PEd (compCx X Nc scope cl s3 H3 C ex) E0 elt fe)
    (hs : ∀ x, foldedSetIterable iter X.env x = pure x := by intro _; rfl) :
    PFd X E (.ListComp elt [⟨tg, iter, [], 0⟩] scope pos) (fComp fi n0 caps gt fe) := by
  refine ⟨fun σ H Q => ∃ H0 B Hf sd, SR X.K H0 B Hf sd σ H ∧ PoF X.K E Hf H (fComp fi n0 caps gt fe sd) Q, ?_, fun H0 B Hf sd σ H Q sr h => ⟨H0, B, Hf, sd, sr, h⟩⟩
  rintro pins s σ H Q I ⟨H0, B, Hf, sd, sr, h⟩
  obtain ⟨wi, pw, qw⟩ := hi
  rw [eval_ListComp]
  refine wpAny_comprehension_free (use := none) rfl hs hclos hkind hnames ?_
  have step := pw pins s σ H (fun J H2 => ∃ ds Hf2, Gr Hf H Hf2 H2 ∧ ItOk X.K Hf2 H2 ds J ∧ PoF X.K E Hf2 H2 (if few ds then mapD gt fe (sdC n0 caps sd) ds else .bad) Q) I
    (qw H0 B Hf sd σ H _ sr (PoF.bind h fun ds J Hf2 H2 _ g2 jok h2 => ⟨ds, Hf2, g2, jok, h2⟩))
  refine thn step fun v s1 h1 => thn h1 fun itv s2 h2 => ?_
  obtain ⟨it, fp, tn, J, H2, rfl, I2, T, st2, f2, ds, Hf2, g2, jok, hq⟩ := h2
  have sr2 := sr.gr g2
  split at hq
  case isFalse => exact hq.elim
  case isTrue hfew =>
  have fresh : H2 s2.heap.objs.size = none := I2.hok.fresh (Nat.le_refl _)
  have holdf : ∀ b ∈ fp, ∃ o, s2.heap.get? b = some o := fun b hb => let ⟨o, e, _⟩ := T.obj 0 _ st2 b hb; ⟨o, e⟩
  refine wpAny_newObj_type (wpAny_newFunctionEnv hcell (by intro y hy; simp at hy) (fun h₁ hns₁ hsb₁ => ?_) hkind)
  have hC : (s2.heap.push lstObj).objs.size = s2.heap.objs.size + 1 := Heap.size_push _ _
  have hns : h₁.Ns (s2.heap.objs.size + 1) (fun x => ([] : List (Str × Value)).reverse.lookup x) := hC ▸ hns₁
  have hsb : Heap.SameBut (s2.heap.objs.size + 1) ((s2.heap.push lstObj).push { cls := .type "dict", data := .dict #[] }) h₁ := hC ▸ hsb₁
  have hold1 : ∀ b o, s2.heap.get? b = some o → h₁.get? b = some o := fun b o e => by
    have hb : b < s2.heap.objs.size := Heap.lt_size e
    exact (hsb.2 b (Nat.ne_of_lt (Nat.lt_succ_of_lt hb))).trans (Heap.get?_push_of_some _ (Heap.get?_push_of_some _ e))
  have hD : h₁.get? s2.heap.objs.size = some lstObj := (hsb.2 _ (Nat.ne_of_lt (Nat.lt_succ_self _))).trans (Heap.get?_push_of_some _ (Heap.get?_push_size _ rfl))
  have J0 := comp_inv I2 f2 holdf hkind cap (tk := s2.toks + ([] : List (Str × Value)).length) hns hold1 hD
  have hg := hg { s2 with heap := s2.heap.push lstObj } (upd H2 s2.heap.objs.size (.lst [])) (s2.heap.objs.size + 1) fp
  have he := he { s2 with heap := s2.heap.push lstObj } (upd H2 s2.heap.objs.size (.lst [])) (s2.heap.objs.size + 1) fp
  -- the block's context
  generalize hXc : compCx X Nc scope cl { s2 with heap := s2.heap.push lstObj } (upd H2 s2.heap.objs.size (.lst [])) (s2.heap.objs.size + 1) fp = Xc at J0 hg he
  have eP : Xc.prog = X.prog := by subst hXc; rfl
  have eW : Xc.w = X.w := by subst hXc; rfl
  have eK : Xc.K = X.K := by subst hXc; rfl
  have eA : Xc.A = X.A := by subst hXc; rfl
  have eX : Xc.xe = fun _ _ => False := by subst hXc; rfl
  have eE : Xc.env = compEnvC scope cl (s2.heap.objs.size + 1) X.env := by subst hXc; rfl
  have eC : Xc.calm = true := by subst hXc; exact hc
  have fpc : ∀ {H' : Hp}, (∀ b ∈ fp, H' b = none) → ∀ b ∈ fp, FpOk Xc [] H' b := fun {H'} hn b hb => by
    subst hXc
    obtain ⟨f0, f1, f2', f3, f4, f5⟩ := f2 b hb
    obtain ⟨o, eo⟩ := holdf b hb
    refine ⟨hn b hb, Nat.ne_of_lt (Nat.lt_succ_of_lt (Heap.lt_size eo)), fun hz => ?_, .inl hb, fun x c e => f4 x c (cap.sub x c e), fun p hp => absurd (show p ∈ ([] : List (Addr × Obj)) from hp) (by simp)⟩
    rcases List.mem_cons.mp (I2.stkSub b hz) with e | hz
    · exact f1 e
    · exact f2' hz
  have nfp : ∀ b ∈ fp, b ≠ s2.heap.objs.size := fun b hb => by
    obtain ⟨o, eo⟩ := holdf b hb
    exact Nat.ne_of_lt (Heap.lt_size eo)
  obtain ⟨tg', pg, qg⟩ := hg
  obtain ⟨te, pe, qe⟩ := he
  have loop : ∀ s₃ : Shared, s₃ = { s2 with heap := h₁, toks := s2.toks + ([] : List (Str × Value)).length } →
      codeAny (model X.prog X.w) X.A (.compLoop (.ListComp elt [⟨tg, iter, [], 0⟩] scope pos) 0 (.ref it) (.ref s2.heap.objs.size) (compEnvC scope cl (s2.heap.objs.size + 1) X.env))
        (compPost (model X.prog X.w) X.A X.xe none (EP X pins σ Q) (.ref s2.heap.objs.size) (s2.heap.objs.size + 1)) s₃ := by
    rintro s₃ rfl
    refine codeAny_comp_any (fun n s' => ∃ i vs es H' Hf' σ', n = ds.length - i ∧ i ≤ ds.length ∧ Inv Xc [] σ' H' s' ∧ tn i s'.heap ∧ (∀ b ∈ fp, H' b = none) ∧
      H' s2.heap.objs.size = some (.lst vs) ∧ Hf' s2.heap.objs.size = none ∧ Gr Hf2 H2 Hf' H' ∧ Reps X.K Hf' es vs ∧ vs.length = i ∧
      (sdC n0 caps sd).length = σ'.length ∧ (∀ (j : Nat) (d : D), (sdC n0 caps sd)[j]? = some (some (.im d)) → ∃ v, σ'[j]? = some (some v) ∧ Rep X.K Hf' d v) ∧
      PoF X.K E Hf2 H2 ((mapD gt fe (sdC n0 caps sd) (ds.drop i)).bind fun fs => .ok (es ++ fs)) Q) ?_ ds.length ?_
    · rintro n s' ⟨i, vs, es, H', Hf', σ', rfl, hil, J1, st1, fr1, hd1, hf1, g1, rs1, hl1, hlen1, him1, hq1⟩
      have jj := jok i Hf' H' g1.fz g1.sub
      cases q : ds[i]? with
      | none =>
        rw [q] at jj
        have tdone := T.done Xc eP eW eK eC i [] s' _ H' (fun _ _ => False) J1 (fpc fr1) st1 jj
        rw [eA] at tdone
        refine wpAny_mono tdone (fun r s4 hr => ?_) fun _ _ z => z
        obtain ⟨rfl, J4⟩ := hr
        rw [List.drop_eq_nil_of_le (List.getElem?_eq_none_iff.mp q)] at hq1
        subst hXc
        obtain ⟨m, hn4, _⟩ := J4.loc
        refine ⟨m, hn4, fun h' sb => ?_⟩
        refine ⟨.ref s2.heap.objs.size, H', comp_back I2 f2 J4 sb, rfl, ?_⟩
        have hq2 : PoF X.K E Hf2 H2 (.ok es) Q := by
          have : es ++ ([] : List D) = es := List.append_nil es
          rw [← this]; exact hq1
        exact hq2 _ vs Hf' H' g1 fresh hf1 hd1 rs1
      | some d =>
        rw [q] at jj
        obtain ⟨go, yl⟩ := jj
        have hlt : i < ds.length := (List.getElem?_eq_some_iff.mp q).1
        have hdr : ds.drop i = d :: ds.drop (i + 1) := by
          rw [List.drop_eq_getElem_cons hlt]
          congr 1
          exact (List.getElem?_eq_some_iff.mp q).2
        -- the element's data
        obtain ⟨sd1, e1, eg, ee, hq2⟩ : ∃ sd1 e1, gt d (sdC n0 caps sd) = .ok sd1 ∧ fe sd1 = .ok e1 ∧ PoF X.K E Hf2 H2 ((mapD gt fe (sdC n0 caps sd) (ds.drop (i + 1))).bind fun fs => .ok ((es ++ [e1]) ++ fs)) Q := by
          rw [hdr] at hq1
          unfold mapD at hq1
          split at hq1
          · rename_i sd1 eg
            split at hq1
            · rename_i e1 ee
              refine ⟨sd1, e1, eg, ee, ?_⟩
              cases em : mapD gt fe (sdC n0 caps sd) (ds.drop (i + 1)) with
              | ok fs =>
                rw [em] at hq1
                have : (es ++ [e1]) ++ fs = es ++ e1 :: fs := by simp
                rw [M.bind_ok, this]
                exact hq1
              | ex x => exact (mapD_noex em).elim
              | bad => rw [em] at hq1; exact hq1.elim
            · exact hq1.elim
          · exact hq1.elim
        have titem := T.item Xc eP eW eK eC i [] s' _ H' (fun _ _ => False) J1 (fpc fr1) st1 go
        rw [eA] at titem
        refine wpAny_mono titem (fun r s4 hr => ?_) fun _ _ z => z
        obtain ⟨u, rfl, h4⟩ := hr
        refine wpAny_mono h4 (fun _ s5 h5 => ?_) fun _ _ z => z
        obtain ⟨x, H5, J5, r5, y5, st5, fr5⟩ := h5
        obtain ⟨Hf5, g5, rx⟩ := yl x H5 y5
        have J5' := J5.pinned (fpc fr5) (T.obj _ _ st5)
        have hD5 : H5 s2.heap.objs.size = some (.lst vs) := g5.all _ _ hd1
        have hf5 : Hf5 s2.heap.objs.size = none := g5.ban _ (Lv.lst hd1) hf1
        have him5 : ∀ (j : Nat) (d : D), (sdC n0 caps sd)[j]? = some (some (.im d)) → ∃ v, σ'[j]? = some (some v) ∧ Rep X.K Hf5 d v := fun j d z => let ⟨v, z1, z2⟩ := him1 j d z; ⟨v, z1, z2.mono g5.fz⟩
        have sr5 : SR Xc.K H5 (fun a => Lv H5 a ∧ Hf5 a = none) Hf5 (sdC n0 caps sd) σ' H5 := eK ▸ SR.ofIm g5.sub hlen1 him5 sdC_no
        obtain ⟨kl, kk, kn⟩ := hk d _ sd1 eg
        have hg2 := pg _ s5 σ' H5 x u (fun σ6 H6 => te σ6 H6 fun v7 H7 => ∃ Hf7, Gr Hf5 H5 Hf7 H7 ∧ Rep X.K Hf7 e1 v7 ∧ (sdC n0 caps sd).length = σ6.length ∧ (∀ (j : Nat) (d : D), (sdC n0 caps sd)[j]? = some (some (.im d)) → ∃ v, σ6[j]? = some (some v) ∧ Rep X.K Hf7 d v)) J5' r5
          (qg H5 _ Hf5 _ σ' H5 x d sd1 _ sr5 (eK ▸ rx) eg fun σ6 sr6 => qe H5 _ Hf5 sd1 σ6 H5 _ sr6 (by
            rw [ee]
            intro v7 Hf7 H7 g7 r7
            have r7 : Rep Xc.K Hf7 e1 v7 := r7
            rw [eK] at r7
            refine ⟨Hf7, g7, r7, by rw [← kl]; exact sr6.len, fun j d z => ?_⟩
            have z2 : sd1[j]? = some (some (.im d)) := by rw [kk j (sdC_lt z)]; exact z
            obtain ⟨v, z3, z4⟩ := sr6.im j d z2
            rw [eK] at z4
            exact ⟨v, z3, z4.mono g7.fz⟩))
        rw [eP, eW, eA, eX, eE] at hg2
        refine wpAny_mono hg2 (fun _ s6 h6 => ?_) fun _ _ z => z
        obtain ⟨σ6, H6, J6, q6⟩ := h6
        have he2 := pe _ s6 σ6 H6 _ J6 q6
        rw [eP, eW, eA, eX, eE] at he2
        refine wpAny_mono he2 (fun y s7 h7 => ?_) fun _ _ z => z
        obtain ⟨v7, H7, J7, r7, Hf7, g7, rv7, hl7, him7⟩ := h7
        have hD7 : H7 s2.heap.objs.size = some (.lst vs) := g7.all _ _ hD5
        have hf7 : Hf7 s2.heap.objs.size = none := g7.ban _ (Lv.lst hD5) hf5
        have happ := mt_append (X := Xc) _ s7 σ6 H7 (.ref s2.heap.objs.size) [v7] (.ref s2.heap.objs.size) [y] (fun _ H8 => H8 = upd H7 s2.heap.objs.size (.lst (vs ++ [v7]))) J7 rfl (.cons r7 .nil)
          ⟨_, vs, v7, rfl, rfl, hD7, by
            have h1 := of_decide_eq_true hfew
            have h2 := sizeLine_eq
            lia, rfl⟩
        rw [eP, eW, eA, eX] at happ
        refine wpAny_mono happ (fun _ s8 h8 => ?_) fun _ _ z => z
        obtain ⟨_, H8, J8, _, e8⟩ := h8
        subst e8
        have g17 := (g1.trans g5).trans g7
        refine ⟨ds.length - (i + 1), by lia, i + 1, vs ++ [v7], es ++ [e1], _, Hf7, σ6, rfl, hlt, J8.unpinned, ?_, fun b hb => ?_, upd_same, hf7, ⟨g17.fz, fun b o z => ?_, fun b o z => ?_, g17.ban⟩, ?_, by rw [List.length_append, hl1]; rfl, hl7, him7, hq2⟩
        · exact T.keep _ _ _ st5 fun b hb o e => (J8.pin (b, o) (List.mem_append_right _ (List.mem_append_right _ (mem_pinsAt hb e)))).1
        · obtain ⟨o, e, _⟩ := T.obj _ _ st5 b hb
          exact (J8.pin (b, o) (List.mem_append_right _ (List.mem_append_right _ (mem_pinsAt hb e)))).2.1
        · have : b ≠ s2.heap.objs.size := ne_of_none z hf7
          rw [upd_ne this]; exact g17.sub b o z
        · have : b ≠ s2.heap.objs.size := ne_of_none z fresh
          rw [upd_ne this]; exact g17.all b o z
        · exact (rs1.mono (g5.fz.trans g7.fz)).append (Reps.cons rv7 Reps.nil)
    · refine ⟨0, [], [], _, Hf2, _, by simp, Nat.zero_le _, J0, T.keep 0 _ _ st2 fun b hb o e => hold1 b o e, fun b hb => ?_, upd_same, g2.sub.free fresh, ⟨Same.refl _, fun b o z => ?_, same_upd fresh _, fun _ _ z => z⟩, Reps.nil, rfl, ?_, fun j d z => ?_, ?_⟩
      · rw [upd_ne (nfp b hb)]; exact (f2 b hb).1
      · have : b ≠ s2.heap.objs.size := ne_of_none (g2.sub b o z) fresh
        rw [upd_ne this]; exact g2.sub b o z
      · unfold sdC; simp only [List.length_append, List.length_replicate, List.length_map]
      · obtain ⟨k, j', d', rfl, ej, es, ed⟩ := sdC_at z
        cases ed
        obtain ⟨v, z1, z2⟩ := sr2.im j' d es
        refine ⟨v, ?_, z2⟩
        rw [List.getElem?_append_right (by simp), List.length_replicate, Nat.add_sub_cancel_left, List.getElem?_map, ej]
        simp [z1]
      · have : ∀ r : M (List D), (r.bind fun fs => .ok ([] ++ fs)) = r := fun r => by cases r <;> simp
        rw [List.drop_zero, this]
        exact hq
  show codeAny (model X.prog X.w) X.A (.compStart (.ListComp elt [⟨tg, iter, [], 0⟩] scope pos) 0 (.ref it) (.ref s2.heap.objs.size) (compEnvC scope cl (s2.heap.push lstObj).objs.size X.env))
    (compPost (model X.prog X.w) X.A X.xe none (EP X pins σ Q) (.ref s2.heap.objs.size) (s2.heap.push lstObj).objs.size) { s2 with heap := h₁, toks := s2.toks + ([] : List (Str × Value)).length }
  rw [hC]
  exact codeAny_compStart_list (loop _ rfl) (T.self X.A 0 _ _ _ (T.keep 0 _ _ st2 fun b hb o e => hold1 b o e) (loop _ rfl))
end DL

set_option maxHeartbeats 4000000

namespace DL
open PySem PySem.Spec PyProof.Rows L2

/-! ### lists of our own -/
section
variable {X : Cx} {E : XK} {pos : Pos} {a b : Expr}
def fLst (fs : DSt → M (List D)) (sd : DSt) : M (List D) := (fs sd).bind fun ds => if few ds then .ok ds else .bad
theorem pfd_lst {es : List Expr} {fs : DSt → M (List D)} (h : PAd X E es fs) : PFd X E (.List es pos) (fLst fs) := by
  obtain ⟨t, p, q⟩ := h
  refine ⟨_, pe_lst p, fun H0 B Hf sd σ H Q sr h => ?_⟩
  refine q H0 B Hf sd σ H _ sr (PoF.bind h fun ds vs Hf1 H1 _ g1 rs h1 => ?_)
  split at h1
  · rename_i hf
    refine ⟨few_line hf rs, fun p hp => h1 p vs Hf1 _ ⟨Same.refl _, g1.sub.trans (same_upd hp _), same_upd hp _, fun _ _ e => e⟩ hp (g1.sub.free hp) upd_same rs⟩
  · exact h1.elim
def fCall (F : List D → M S) (fs : DSt → M (List D)) (sd : DSt) : M (List D) := (fs sd).bind fun ds => match F ds with
  | .ok (.ow es) => .ok es
  | _ => .bad
theorem PoS.bindF {K : PySem.W.Frag} {E : XK} {H0 Hf H : Hp} {B : Addr → Prop} {sd : DSt} {σ : L2.St} {r : M (List D)} {k : List D → M O} {D' : Ends} {Q1 : VK} (sr : SR K H0 B Hf sd σ H) (h : PoS K E H0 B Hf (r.bind k) D')
    (s : ∀ ds p xs Hf1 H1, r = .ok ds → Gr Hf H Hf1 H1 → SR K H0 B Hf1 sd σ H1 → H p = none → Hf1 p = none → H1 p = some (.lst xs) → Reps K Hf1 ds xs → PoS K E H0 B Hf1 (k ds) D' → Q1 (.ref p) H1) : PoF K E Hf H r Q1 := by
  cases r with
  | ok ds => exact fun p xs Hf' H' g e1 e2 e3 e4 => s ds p xs Hf' H' rfl g (sr.gr g) e1 e2 e3 e4 (PoS.weak g.fz h)
  | ex x => exact fun c dx Hf' H' g q => h c dx Hf' H' g.fz (sr.gr g).fin q
  | bad => exact h
/-- an object that is new since H, not frozen -/
theorem SR.set_new {K : PySem.W.Frag} {H0 Hf H H1 : Hp} {B : Addr → Prop} {sd : DSt} {σ : L2.St} (r0 : SR K H0 B Hf sd σ H) {Hf1 : Hp} (r : SR K H0 B Hf1 sd σ H1) (g : Same H H1) (i : Nat) {p : Addr} {t : S} (hp : H p = none) (hf : Hf1 p = none) (ho : t.own = true) (h : S.at K Hf1 H1 p t) :
    SR K H0 B Hf1 (sd.set i (some t)) (σ.set i (some (.ref p))) H1 where
  sub := r.sub
  all := r.all
  ban := r.ban
  bt := r.bt
  len := by rw [List.length_set, List.length_set]; exact r.len
  imS := fun j d' e z => by
    by_cases hj : i = j
    · subst hj
      have hi : i < sd.length := by
        have := (List.getElem?_eq_some_iff.mp e).1; simpa using this
      rw [List.getElem?_set_self hi] at e
      cases e
      rw [ho] at z; cases z
    · rw [List.getElem?_set_ne hj] at e ⊢
      exact r.imS j d' e z
  ow := fun j u e hu => by
    by_cases hj : i = j
    · subst hj
      have hi : i < sd.length := by
        have := (List.getElem?_eq_some_iff.mp e).1; simpa using this
      rw [List.getElem?_set_self hi] at e
      cases e
      exact ⟨p, by rw [List.getElem?_set_self (by rw [← r.len]; exact hi)], r0.all.free hp, hf, h⟩
    · rw [List.getElem?_set_ne hj] at e ⊢
      exact r.ow j u e hu
  sep := fun j k u w q hjk e1 o1 e2 o2 e3 e4 => by
    have new : ∀ {l : Nat}, i = l → (σ.set i (some (V.ref p)))[l]? = some (some (.ref q)) → q = p := fun {l} z e => by
      subst z
      have hi : i < σ.length := by
        have := (List.getElem?_eq_some_iff.mp e).1; simpa using this
      rw [List.getElem?_set_self hi] at e
      cases e; rfl
    have old : ∀ {l : Nat} {u : S}, i ≠ l → (sd.set i (some t))[l]? = some (some u) → u.own = true → (σ.set i (some (V.ref p)))[l]? = some (some (.ref q)) → q ≠ p := fun {l u} n e ou z => by
      rw [List.getElem?_set_ne n] at e z
      obtain ⟨q', e1, _, _, e4⟩ := r0.ow l u e ou
      rw [z] at e1
      cases e1
      obtain ⟨o, eo⟩ := at_some e4
      exact ne_of_none eo hp
    by_cases n1 : i = j
    · have n2 : i ≠ k := fun z => hjk (n1.symm.trans z)
      exact old n2 e2 o2 e4 (new n1 e3)
    · by_cases n2 : i = k
      · exact old n1 e1 o1 e3 (new n2 e4)
      · rw [List.getElem?_set_ne n1] at e1 e3
        rw [List.getElem?_set_ne n2] at e2 e4
        exact r.sep j k u w q hjk e1 o1 e2 o2 e3 e4
/-- x = a new list, that may change -/
def sOwn (i : Nat) (f : DSt → M (List D)) (sd : DSt) : M O := (f sd).bind fun ds => .ok (.nx (sd.set i (some (.ow ds))))
theorem psd_own (i : Nat) {x : Str} {e : Expr} {f : DSt → M (List D)} {pos' : Pos} (hN : X.N.Nodup) (h : PFd X E e f) (hi : X.N[i]? = some x := by rfl) (hx : Loc X.env.scope x := by first | exact Or.inl rfl | exact Or.inr rfl)
    (hs : swapsWith e (some (.Name x pos')) pos.line X.env = pure false := by rfl) (hf : X.fn x = true ∨ X.env.scope.names.lookup x = some .local := by first | exact .inl rfl | exact .inr rfl | assumption) :
    PSd X E (.Assign [.Name x pos'] e pos) (sOwn i f) := by
  obtain ⟨t, p, q⟩ := h
  refine ⟨_, ps_set hN hi hx p hs hf, fun H0 B Hf sd σ H D sr h => ?_⟩
  refine q H0 B Hf sd σ H _ sr (PoS.bindF sr h fun ds p xs Hf1 H1 _ g1 sr1 e1 e2 e3 e4 h1 => ?_)
  exact h1 _ Hf1 H1 (Same.refl _) (sr.set_new sr1 g1.all i e1 e2 rfl ⟨xs, e3, e4⟩)
/-- x.append(e) -/
def sApp (i : Nat) (f : DSt → M D) (sd : DSt) : M O := match sd[i]? with
  | some (some (.ow ds)) => (f sd).bind fun d => if few ds then .ok (.nx (sd.set i (some (.ow (ds ++ [d]))))) else .bad
  | _ => .bad
theorem psd_app (i : Nat) {x : Str} {e : Expr} {f : DSt → M D} {p1 p2 p3 : Pos} (h : PEd X E e f) (hi : X.N[i]? = some x := by rfl) (hv : Vis X.env.scope x := by first | exact Or.inl rfl | exact Or.inr (Or.inl rfl) | exact Or.inr (Or.inr rfl))
    (hd : (x == ("__debug__" : Str)) = false := by decide) (hcd : (x == ("__classdict__" : Str)) = false := by decide)
    (hse : starEach [e] X.env = (false, eval e X.env) :: starEach [] X.env := by rfl)
    (hbase : attributeBase (.Name x p1) "append" X.env (eval (.Name x p1) X.env) = eval (.Name x p1) X.env := by rfl)
    (hfew : ((backTo p3 (starEach [e] X.env)).all (fun x => !x.1) && (backToKw p3 (keywordEach [] X.env)).all (fun x => x.1.isSome)
      && decide ([e].length + ([] : List Keyword).length + (if ([] : List Keyword).isEmpty then 0 else 1) < 30)) = true := by rfl)
    (hline : (p2.endLine == p3.line) = true := by rfl) (hplain : (backTo p3 (starEach ([] : List Expr) X.env)).any (·.1) = false := by rfl)
    (hsw : swapsWith (.Call (.Attribute (.Name x p1) "append" p2) [e] [] p3) none pos.line X.env = pure false := by rfl) :
    PSd X E (.Expr (.Call (.Attribute (.Name x p1) "append" p2) [e] [] p3) pos) (sApp i f) := by
  obtain ⟨t, pt, q⟩ := h
  refine ⟨_, ps_expr (pe_bm PySem.F.plainAttrs_list PySem.F.slot_list_append PySem.F.type_list_append mt_append (pe_var hi hv hd hcd) (pa_cons pt pa_nil hse) hbase hfew hline hse hplain) hsw, fun H0 B Hf sd σ H D sr h => ?_⟩
  unfold sApp at h
  split at h
  · rename_i ds ei
    obtain ⟨p, z1, z2, z3, xs, z4, z5⟩ := sr.ow i _ ei rfl
    refine ⟨_, z1, .inl ⟨rfl, xs, SqL.of z4⟩, ?_⟩
    refine q H0 B Hf sd σ H _ sr (PoS.bind sr h fun d v Hf1 H1 _ g1 sr1 rv h1 => ?_)
    split at h1
    · rename_i hf
      have z5' := z5.mono g1.fz
      have hl : xs.length < sizeLine := by
        have h1 := of_decide_eq_true hf
        have h2 := sizeLine_eq
        rw [← z5.length, h2]; lia
      refine ⟨p, xs, v, rfl, rfl, g1.all _ _ z4, hl, ?_⟩
      exact h1 _ Hf1 _ (Same.refl _) (sr1.change ei rfl z1 rfl ⟨_, upd_same, z5'.append (Reps.cons rv Reps.nil)⟩)
    · exact h1.elim
  · exact h.elim
/-- return x, x our own list -/
def sRetO (i : Nat) (sd : DSt) : M O := match sd[i]? with
  | some (some (.ow ds)) => .ok (.rt (.ow ds))
  | _ => .bad
theorem psd_retO (i : Nat) {x : Str} {p1 : Pos} (hi : X.N[i]? = some x := by rfl) (hv : Vis X.env.scope x := by first | exact Or.inl rfl | exact Or.inr (Or.inl rfl) | exact Or.inr (Or.inr rfl))
    (hd : (x == ("__debug__" : Str)) = false := by decide) (hcd : (x == ("__classdict__" : Str)) = false := by decide) : PSd X E (.Return (some (.Name x p1)) pos) (sRetO i) := by
  refine ⟨_, ps_ret (pe_var hi hv hd hcd), fun H0 B Hf sd σ H D sr h => ?_⟩
  unfold sRetO at h
  split at h
  · rename_i ds ei
    obtain ⟨p, z1, z2, z3, z4⟩ := sr.ow i _ ei rfl
    exact ⟨_, z1, h _ Hf H (Same.refl _) sr.fin ⟨p, rfl, z2, z3, z4⟩⟩
  · exact h.elim
/-- from here on the list in slot i does not change any more -/
def frz (i : Nat) (sd : DSt) : DSt := match sd[i]? with
  | some (some (.ow ds)) => sd.set i (some (.im (.lst ds)))
  | _ => sd
def sFrz (i : Nat) (f : DSt → M O) (sd : DSt) : M O := f (frz i sd)
theorem psd_frz (i : Nat) {st : List Stmt} {f : DSt → M O} (h : PSsd X E st f) : PSsd X E st (sFrz i f) := by
  obtain ⟨t, p, q⟩ := h
  refine ⟨t, p, fun H0 B Hf sd σ H D sr h => ?_⟩
  unfold sFrz frz at h
  split at h
  · rename_i ds ei
    obtain ⟨Hf', e, sr'⟩ := sr.freeze ei
    exact q H0 B Hf' _ σ H D sr' (PoS.weak e h)
  · exact q H0 B Hf sd σ H D sr h

/-! ### in, not in -/
theorem any_reps {Xc : Cx} {pins : List (Addr × Obj)} {σ : L2.St} {H : Hp} {s : Shared} (I : Inv Xc pins σ H s) (dx : D) (e : Value → Bool) (he : ∀ d v u, Rep Xc.K H d v → RelV v u → e u = D.eq d dx) :
    ∀ {ds : List D} {xs : List V} {us : List Value}, Reps Xc.K H ds xs → Vals xs us → us.any e = ds.any fun d => D.eq d dx
  | [], xs, us, r, v => by
    rw [reps_nil.mp r] at v
    cases v
    rfl
  | d :: ds, xs, us, r, v => by
    obtain ⟨x, xr, rfl, r1, r2⟩ := reps_cons.mp r
    cases v with
    | cons v1 v2 => rw [List.any_cons, List.any_cons, he d x _ r1 v1, any_reps I dx e he r2 v2]
theorem mem_reps {Xc : Cx} {H : Hp} {ds : List D} : ∀ {xs : List V} {us : List Value} {u : Value}, Reps Xc.K H ds xs → Vals xs us → u ∈ us → ∃ d v, d ∈ ds ∧ Rep Xc.K H d v ∧ RelV v u := by
  induction ds with
  | nil =>
    intro xs us u r v hu
    rw [reps_nil.mp r] at v
    cases v
    cases hu
  | cons d ds ih =>
    intro xs us u r v hu
    obtain ⟨x, xr, rfl, r1, r2⟩ := reps_cons.mp r
    cases v with
    | cons v1 v2 =>
      rcases List.mem_cons.mp hu with rfl | hu
      · exact ⟨d, x, List.mem_cons_self, r1, v1⟩
      · obtain ⟨d', v', h1, h2, h3⟩ := ih r2 v2 hu
        exact ⟨d', v', List.mem_cons_of_mem _ h1, h2, h3⟩
def inD (dx : D) (ds : List D) : Bool := ds.any fun d => D.eq d dx
def rInD (K : PySem.W.Frag) (neg : Bool) : R2 := fun x y H Q => ∃ dx ds, Rep K H dx x ∧ (Rep K H (.lst ds) y ∨ Rep K H (.tup ds) y) ∧ D.deps ds ≤ 60 ∧ Q (.bl (if neg then !inD dx ds else inD dx ds)) H
theorem deps_mem : ∀ {ds : List D} {d : D}, d ∈ ds → d.dep ≤ D.deps ds
  | e :: ds, d, h => by
    rw [D.deps]
    rcases List.mem_cons.mp h with rfl | h
    · lia
    · have := deps_mem h; lia
open Classical in
theorem op_inD (hu : X.A.units + 64 < cLine) : OpR X (compareOp .In) (rInD X.K false) := by
  intro pins s σ H x y v u Q I rx ry h
  obtain ⟨dx, ds, hx, hy, hd, q⟩ := h
  let e : Value → Bool := fun u => decide (∃ d v, Rep X.K H d v ∧ RelV v u ∧ D.eq d dx = true)
  have he : ∀ d v u, Rep X.K H d v → RelV v u → e u = D.eq d dx := fun d v u r1 r2 => by
    cases z : D.eq d dx with
    | true => exact decide_eq_true ⟨d, v, r1, r2, z⟩
    | false =>
      refine decide_eq_false ?_
      rintro ⟨d', v', a1, a2, a3⟩
      have e1 : v' = v := RelV.inj a2 r2
      subst e1
      rw [rep_inj I d d' _ r1 a1, a3] at z
      cases z
  have each : ∀ {xs : List V} {us : List Value}, Reps X.K H ds xs → Vals xs us → ∀ w ∈ us, SeqAt.EqAt X.A.in1 s w v (e w) := fun {xs us} r1 r2 w hw => by
    obtain ⟨d, z, m1, m2, m3⟩ := mem_reps r1 r2 hw
    rw [he d z w m2 m3]
    refine (cmp_at I d dx X.A.in1 z x w v ?_ m2 hx m3 rx).eq
    have := deps_mem m1
    show X.A.units + 1 + _ < _
    lia
  rcases hy with hy | hy
  · obtain ⟨p, xs, rfl, hp, hr⟩ := rep_lst.mp hy
    cases ry
    obtain ⟨its, r, pl, hz⟩ := I.list hp
    refine SeqAt.in_listAt e pl.isList (fun w hw => each hr r w (by simpa using hw)) ⟨.bl _, H, I, rfl, ?_⟩
    rw [show its.toArray.any e = its.any e by simp, any_reps I dx e he hr r]
    exact q
  · obtain ⟨p, xs, rfl, hp, hr⟩ := rep_tupQ hy
    cases ry
    obtain ⟨its, r, pl, hz⟩ := I.tuple hp
    refine SeqAt.in_tupleAt e pl (fun w hw => each hr r w (by simpa using hw)) ⟨.bl _, H, I, rfl, ?_⟩
    rw [show its.toArray.any e = its.any e by simp, any_reps I dx e he hr r]
    exact q
open Classical in
def gIn : D → D → M D
  | x, .lst ds => if D.deps ds ≤ 60 then .ok (.bl (inD x ds)) else .bad
  | x, .tup ds => if D.deps ds ≤ 60 then .ok (.bl (inD x ds)) else .bad
  | _, _ => .bad
theorem od_in (hu : X.A.units + 64 < cLine) : OpD X E (compareOp .In) gIn := by
  refine ⟨_, op_inD hu, fun Hf H x y dx dy Q e rx ry q => ?_⟩
  unfold gIn at q
  split at q
  · split at q
    · rename_i hd
      exact ⟨_, _, rx.mono e, .inl (ry.mono e), hd, Po.ret e q (rep_bl.mpr rfl)⟩
    · exact q.elim
  · split at q
    · rename_i hd
      exact ⟨_, _, rx.mono e, .inr (ry.mono e), hd, Po.ret e q (rep_bl.mpr rfl)⟩
    · exact q.elim
  · exact q.elim
/-! ### is None -/
end
end DL

set_option maxHeartbeats 4000000

namespace DL
open PySem PySem.Spec PyProof.Rows L2

/-! ### iterators with several objects of their own -/
section
variable {X : Cx} {pins : List (Addr × Obj)} {σ : L2.St} {H : Hp} {s : Shared} {h' : Heap} {t' : Nat} {fp : List Addr}
end

/-! ### enumerate(a list) -/
/-! ### zip(two lists) -/
structure ZA (z TI TO i1 i2 : Addr) : Prop where
  TIz : TI ≠ z
  TOz : TO ≠ z
  i1z : i1 ≠ z
  i2z : i2 ≠ z
  TITO : TI ≠ TO
  TIi1 : TI ≠ i1
  TIi2 : TI ≠ i2
  TOi1 : TO ≠ i1
  TOi2 : TO ≠ i2
  i12 : i1 ≠ i2
section
variable {X : Cx} {E : XK} {pos p p2 : Pos} {es : List Expr} {k : Nat}
end

/-! ### dicts of our own -/
def keyD : D → Option Key
  | .int i => some (.inl i)
  | .str x => some (.inr x)
  | _ => none
def keysD : List D → Option (List Key)
  | [] => some []
  | d :: r => match keyD d, keysD r with
    | some k, some ks => some (k :: ks)
    | _, _ => none
theorem keyD_rep {K : PySem.W.Frag} {H : Hp} {d : D} {k : Key} {v : V} (e : keyD d = some k) (r : Rep K H d v) : v = kV k := by
  cases d with
  | int i => cases e; exact rep_int.mp r
  | str x => cases e; exact rep_str.mp r
  | non => cases e
  | bl _ => cases e
  | tup _ => cases e
  | lst _ => cases e
theorem keysD_reps {K : PySem.W.Frag} {H : Hp} : ∀ {ds : List D} {ks : List Key} {vs : List V}, keysD ds = some ks → Reps K H ds vs → vs = ks.map kV
  | [], ks, vs, e, r => by cases e; rw [reps_nil.mp r]; rfl
  | d :: ds, ks, vs, e, r => by
    obtain ⟨x, xr, rfl, r1, r2⟩ := reps_cons.mp r
    unfold keysD at e
    split at e
    · rename_i k ks' e1 e2
      cases e
      rw [keyD_rep e1 r1, keysD_reps e2 r2]
      rfl
    · cases e
def putD {κ : Type} [DecidableEq κ] (kvs : List (κ × D)) (k : κ) (d : D) : List (κ × D) :=
  if (kvs.any fun kv => decide (kv.1 = k)) = true then kvs.map (fun kv => if kv.1 = k then (kv.1, d) else kv) else kvs ++ [(k, d)]
def getD' {κ : Type} [DecidableEq κ] (kvs : List (κ × D)) (k : κ) : Option D := (kvs.find? fun kv => decide (kv.1 = k)).map (·.2)
section
variable {κ : Type} [DecidableEq κ]
variable {K : PySem.W.Frag} {H : Hp}
theorem RepKV.any {kvs : List (κ × D)} {ys : List (κ × V)} (r : RepKV K H kvs ys) (k : κ) : (kvs.any fun kv => decide (kv.1 = k)) = (ys.any fun kv => decide (kv.1 = k)) := by
  unfold RepKV at r
  induction r with
  | nil => rfl
  | cons h t ih => rw [List.any_cons, List.any_cons, ih, h.1]
theorem RepKV.get {kvs : List (κ × D)} {ys : List (κ × V)} (r : RepKV K H kvs ys) (k : κ) {d : D} (e : getD' kvs k = some d) : ∃ v, valV ys k = some v ∧ Rep K H d v := by
  unfold RepKV at r
  induction r with
  | nil => cases e
  | @cons p q ps qs h t ih =>
    by_cases hk : p.1 = k
    · have e1 : getD' (p :: ps) k = some p.2 := by simp [getD', List.find?_cons, hk]
      rw [e1] at e
      cases e
      exact ⟨q.2, valV_pos (h.1 ▸ hk), h.2⟩
    · have e1 : getD' (p :: ps) k = getD' ps k := by simp [getD', List.find?_cons, hk]
      rw [e1] at e
      obtain ⟨v, h1, h2⟩ := ih e
      exact ⟨v, by rw [valV_neg (fun z => hk (h.1.trans z))]; exact h1, h2⟩
theorem RepKV.none {kvs : List (κ × D)} {ys : List (κ × V)} (r : RepKV K H kvs ys) (k : κ) (e : getD' kvs k = .none) : valV ys k = .none := by
  unfold RepKV at r
  induction r with
  | nil => rfl
  | @cons p q ps qs h t ih =>
    by_cases hk : p.1 = k
    · have e1 : getD' (p :: ps) k = some p.2 := by simp [getD', List.find?_cons, hk]
      rw [e1] at e
      cases e
    · have e1 : getD' (p :: ps) k = getD' ps k := by simp [getD', List.find?_cons, hk]
      rw [e1] at e
      rw [valV_neg (fun z => hk (h.1.trans z))]; exact ih e
theorem RepKV.repl {kvs : List (κ × D)} {ys : List (κ × V)} (r : RepKV K H kvs ys) (k : κ) {d : D} {v : V} (h : Rep K H d v) : RepKV K H (kvs.map fun kv => if kv.1 = k then (kv.1, d) else kv) (ys.map fun kv => if kv.1 = k then (kv.1, v) else kv) := by
  unfold RepKV at r ⊢
  induction r with
  | nil => exact .nil
  | @cons p q ps qs hp t ih =>
    refine .cons ?_ ih
    show (if p.1 = k then (p.1, d) else p).1 = (if q.1 = k then (q.1, v) else q).1 ∧ Rep K H (if p.1 = k then (p.1, d) else p).2 (if q.1 = k then (q.1, v) else q).2
    by_cases hk : p.1 = k
    · rw [if_pos hk, if_pos (hp.1 ▸ hk)]; exact ⟨hp.1, h⟩
    · rw [if_neg hk, if_neg (fun z => hk (hp.1.trans z))]; exact hp
theorem RepKV.put {kvs : List (κ × D)} {ys : List (κ × V)} (r : RepKV K H kvs ys) (k : κ) {d : D} {v : V} (h : Rep K H d v) : RepKV K H (putD kvs k d) (putK ys k v) := by
  unfold putD putK
  rw [r.any k]
  split
  · exact r.repl k h
  · exact Paired.snoc r ⟨rfl, h⟩
theorem RepKV.length {kvs : List (κ × D)} {ys : List (κ × V)} (r : RepKV K H kvs ys) : kvs.length = ys.length := Paired.length r
end
section
variable {X : Cx} {E : XK} {pos p1 p2 pos' : Pos} {key value : Expr} {x : Str}
def sDNewT (i : Nat) (sd : DSt) : M O := .ok (.nx (sd.set i (some (.od []))))
theorem psd_dnewT (i : Nat) (hN : X.N.Nodup) (hi : X.N[i]? = some x := by rfl) (hx : Loc X.env.scope x := by first | exact Or.inl rfl | exact Or.inr rfl)
    (hs : swapsWith (.Dict [] [] p2) (some (.Name x pos')) pos.line X.env = pure false := by rfl) (hf : X.fn x = true ∨ X.env.scope.names.lookup x = some .local := by first | exact .inl rfl | exact .inr rfl | assumption) :
    PSd X E (.Assign [.Name x pos'] (.Dict [] [] p2) pos) (sDNewT i) := by
  refine ⟨_, ps_set hN hi hx pe_dnewT hs hf, fun H0 B Hf sd σ H D sr h => ?_⟩
  exact fun p hp => h _ Hf _ (Same.refl _) (sr.set_own i hp rfl ⟨[], upd_same, .nil⟩)
/-- the slot of a dict, with a key: the pairs at it behind a store; whether it is there; its value -/
def dput : Option (Option S) → D → D → Option S
  | some (some (.od kvs)), .tup ds, v => match keysD ds with
    | some ks => if kvs.length ≤ 1000000 then some (.od (putD kvs ks v)) else none
    | none => none
  | some (some (.dk kvs)), k, v => match keyD k with
    | some k => if kvs.length ≤ 1000000 then some (.dk (putD kvs k v)) else none
    | none => none
  | _, _, _ => none
def isDct : Option (Option S) → Bool
  | some (some (.od _)) => true
  | some (some (.dk _)) => true
  | _ => false
theorem dct_own {o : Option (Option S)} (h : isDct o = true) : ∃ t, o = some (some t) ∧ t.own = true := by
  unfold isDct at h
  split at h
  · exact ⟨_, rfl, rfl⟩
  · exact ⟨_, rfl, rfl⟩
  · cases h
theorem key_at {K : PySem.W.Frag} {Hf H : Hp} {ds : List D} {ks : List Key} {y : V} (e : keysD ds = some ks) (sub : Same Hf H) (r : Rep K Hf (.tup ds) y) : ∃ b, y = .ref b ∧ H b = some (.tup (ks.map kV)) := by
  obtain ⟨b, xs, rfl, hb, hr⟩ := rep_tup.mp r
  rw [keysD_reps e hr] at hb
  exact ⟨b, rfl, sub _ _ hb⟩
def sDPut (i : Nat) (fk fv : DSt → M D) (sd : DSt) : M O := if isDct sd[i]? then ((fv sd).bind fun v => (fk sd).bind fun k => match dput sd[i]? k v with
  | some t => .ok (.nx (sd.set i (some t)))
  | none => .bad) else .bad
theorem psd_dput (i : Nat) {fk fv : DSt → M D} (hu : X.A.units + 64 < cLine) (hk : PEd X E key fk) (hv : PEd X E value fv) (hi : X.N[i]? = some x := by rfl) (hvis : Vis X.env.scope x := by first | exact Or.inl rfl | exact Or.inr (Or.inl rfl) | exact Or.inr (Or.inr rfl))
    (hd : (x == ("__debug__" : Str)) = false := by decide) (hcd : (x == ("__classdict__" : Str)) = false := by decide) (hs : swapsWith value (some (.Subscript (.Name x p1) key pos')) pos.line X.env = pure false := by rfl) :
    PSd X E (.Assign [.Subscript (.Name x p1) key pos'] value pos) (sDPut i fk fv) := by
  obtain ⟨tk, pk, qk⟩ := hk
  obtain ⟨tv, pv, qv⟩ := hv
  refine ⟨_, ps_dput (by lia) (pe_var hi hvis hd hcd) pk pv hs, fun H0 B Hf sd σ H D sr h => ?_⟩
  unfold sDPut at h
  split at h
  case isFalse => exact h.elim
  case isTrue hdc =>
  obtain ⟨t, et, ot⟩ := dct_own hdc
  obtain ⟨p, z1, z2, z3, z4⟩ := sr.ow i t et ot
  refine qv H0 B Hf sd σ H _ sr (PoS.bind sr h fun dv v Hf1 H1 _ g1 sr1 rv h1 => ?_)
  refine ⟨_, z1, ?_⟩
  refine qk H0 B Hf1 sd σ H1 _ sr1 (PoS.bind sr1 h1 fun dk y Hf2 H2 _ g2 sr2 ry h2 => ?_)
  obtain ⟨p', z1', _, _, z4'⟩ := sr2.ow i t et ot
  rw [z1] at z1'
  cases z1'
  have rv2 := Rep.mono g2.fz rv
  have nl : ∀ {κ : Type} {kvs : List (κ × DL.D)} {ys : List (κ × V)}, RepKV X.K Hf2 kvs ys → kvs.length ≤ 1000000 → ys.length < sizeLine := fun {κ kvs ys} r hl => by
    have := Paired.length r
    have h2 := sizeLine_eq
    lia
  rw [et] at h2
  split at h2
  · rename_i u eu
    cases t with
    | im d => cases ot
    | xc x => cases ot
    | fn x => cases ot
    | ow ds => simp [dput] at eu
    | od kvs =>
      obtain ⟨ys, a1, a2⟩ := z4'
      cases dk with
      | tup ds =>
        unfold dput at eu
        dsimp only at eu
        split at eu
        · rename_i ks ek
          split at eu
          · rename_i hl
            cases eu
            obtain ⟨b, rfl, hb⟩ := key_at ek sr2.sub ry
            exact ⟨p, _, rfl, DPut.t a1 hb (nl a2 hl), h2 _ Hf2 _ (Same.refl _) (sr2.change et ot z1 rfl ⟨_, upd_same, a2.put ks rv2⟩)⟩
          · cases eu
        · cases eu
      | non => simp [dput] at eu
      | bl _ => simp [dput] at eu
      | int _ => simp [dput] at eu
      | str _ => simp [dput] at eu
      | lst _ => simp [dput] at eu
    | dk kvs =>
      obtain ⟨ys, a1, a2⟩ := z4'
      have eu : (match keyD dk with
        | some k => if kvs.length ≤ 1000000 then some (S.dk (putD kvs k dv)) else none
        | none => none) = some u := eu
      split at eu
      · rename_i ks ek
        split at eu
        · rename_i hl
          cases eu
          rw [keyD_rep ek ry]
          exact ⟨p, _, rfl, DPut.k a1 (nl a2 hl), h2 _ Hf2 _ (Same.refl _) (sr2.change et ot z1 rfl ⟨_, upd_same, a2.put ks rv2⟩)⟩
        · cases eu
      · cases eu
  · exact h2.elim
end

/-! ### looking at a list of our own: a flat answer -/
def tView (i : Nat) (f : DSt → M Bool) (sd : DSt) : M Bool := match f (frz i sd) with
  | .ok b => .ok b
  | _ => .bad
section
variable {X : Cx} {E : XK} {e : Expr}
theorem frz_sr {K : PySem.W.Frag} {H0 Hf H : Hp} {B : Addr → Prop} {sd : DSt} {σ : L2.St} (sr : SR K H0 B Hf sd σ H) (i : Nat) : ∃ Hf', Same Hf Hf' ∧ SR K H0 B Hf' (frz i sd) σ H := by
  unfold frz
  split
  · rename_i ds ei
    exact sr.freeze ei
  · exact ⟨Hf, Same.refl _, sr⟩
theorem ptd_view (i : Nat) {f : DSt → M Bool} (h : PTd X E e f) : PTd X E e (tView i f) := by
  obtain ⟨t, p, q⟩ := h
  refine ⟨t, p, fun H0 B Hf sd σ H Q sr h => ?_⟩
  obtain ⟨Hf', e1, sr'⟩ := frz_sr sr i
  refine q H0 B Hf' _ σ H Q sr' ?_
  unfold tView at h
  cases ef : f (frz i sd) with
  | ok d =>
    rw [ef] at h
    exact fun v Hf2 H2 g r => h v Hf H2 ⟨Same.refl _, sr.sub.trans g.all, g.all, fun _ _ z => z⟩ r
  | ex x => rw [ef] at h; exact h.elim
  | bad => rw [ef] at h; exact h.elim
end

/-! ### a comprehension's block that sees names of the def -/
def clOf (cells : List (Str × Addr)) : List (Str × NameKind) → List (Str × Addr) → List (Str × Addr)
  | [], acc => acc
  | (n, k) :: r, acc => if k == NameKind.free then (match cells.lookup n with
    | some c => clOf cells r ((n, c) :: acc)
    | none => clOf cells r acc) else clOf cells r acc
theorem clOf_mem (cells : List (Str × Addr)) : ∀ (names : List (Str × NameKind)) (acc : List (Str × Addr)), (∀ p ∈ acc, cells.lookup p.1 = some p.2) → ∀ p ∈ clOf cells names acc, cells.lookup p.1 = some p.2
  | [], acc, h => h
  | (n, k) :: r, acc, h => by
    unfold clOf
    split
    · split
      · rename_i c hc
        refine clOf_mem cells r _ fun p hp => ?_
        rcases List.mem_cons.mp hp with rfl | hp
        · exact hc
        · exact h p hp
      · exact clOf_mem cells r acc h
    · exact clOf_mem cells r acc h
theorem clOf_keep (cells : List (Str × Addr)) : ∀ (names : List (Str × NameKind)) (acc : List (Str × Addr)), ∀ p ∈ acc, p ∈ clOf cells names acc
  | [], acc, p, h => h
  | (n, k) :: r, acc, p, h => by
    unfold clOf
    split
    · split
      · exact clOf_keep cells r _ p (List.mem_cons_of_mem _ h)
      · exact clOf_keep cells r acc p h
    · exact clOf_keep cells r acc p h
theorem clOf_has (cells : List (Str × Addr)) : ∀ (names : List (Str × NameKind)) (acc : List (Str × Addr)) (n : Str) (c : Addr), (n, NameKind.free) ∈ names → cells.lookup n = some c → (n, c) ∈ clOf cells names acc
  | [], _, _, _, h, _ => by cases h
  | (m, k) :: r, acc, n, c, h, hc => by
    unfold clOf
    rcases List.mem_cons.mp h with h | h
    · cases h
      rw [if_pos (by decide), hc]
      exact clOf_keep cells r _ _ List.mem_cons_self
    · split
      · split
        · exact clOf_has cells r _ n c h hc
        · exact clOf_has cells r _ n c h hc
      · exact clOf_has cells r _ n c h hc
theorem lookup_mem {β : Type} : ∀ {l : List (Str × β)} {n : Str} {c : β}, l.lookup n = some c → (n, c) ∈ l := fun h => PySem.mem_of_lookup h
theorem lookup_some {β : Type} : ∀ {l : List (Str × β)} {n : Str} {c : β}, (n, c) ∈ l → ∃ d, l.lookup n = some d
  | [], _, _, h => by cases h
  | (m, d) :: r, n, c, h => by
    rw [List.lookup_cons]
    by_cases e : n = m
    · subst e; exact ⟨d, by simp⟩
    · have e' : (n == m) = false := beq_eq_false_iff_ne.mpr e
      rw [e']
      rcases List.mem_cons.mp h with h | h
      · cases h; exact absurd rfl e
      · exact lookup_some h
theorem closure_eq {scope : Scope} {env : Env} (h : ∀ y ∈ scope.names, y.2 = .free → ∃ c, env.cells.lookup y.1 = some c) : closureFor scope env = pure (clOf env.cells scope.names []) := by
  have key : ∀ (names : List (Str × NameKind)) (acc : List (Str × Addr)), (∀ y ∈ names, y.2 = .free → ∃ c, env.cells.lookup y.1 = some c) →
      (forIn names acc fun (x : Str × NameKind) (cs : List (Str × Addr)) => (do
        if x.2 == .free then
          let c ← cellOf env x.1
          pure (ForInStep.yield ((x.1, c) :: cs))
        else pure (ForInStep.yield cs) : Sem _)) = pure (clOf env.cells names acc) := by
    intro names
    induction names with
    | nil => intro acc _; rfl
    | cons y r ih =>
      intro acc hy
      obtain ⟨n, k⟩ := y
      rw [List.forIn_cons]
      unfold clOf
      by_cases hk : (k == NameKind.free) = true
      · obtain ⟨c, hc⟩ := hy (n, k) List.mem_cons_self (by simpa using hk)
        have e1 : cellOf env n = pure c := by unfold cellOf; rw [hc]
        simp only [hk, if_true, e1, hc, pure_bind]
        exact ih _ fun z hz => hy z (List.mem_cons_of_mem _ hz)
      · simp only [hk, Bool.false_eq_true, if_false, pure_bind]
        exact ih _ fun z hz => hy z (List.mem_cons_of_mem _ hz)
  have e := key scope.names [] h
  unfold closureFor
  simp only [bind_pure]
  exact e
theorem capN {X : Cx} {Nc : List Str} {n0 : Nat} {caps : List Nat} {scope sc : Scope} (hsc : X.env.scope = sc) (hkf : sc.kind = .function) (hcell : ∀ y ∈ scope.names, y.2 ≠ .cell) (hfree : ∀ y ∈ scope.names, y.2 = .free → sc.names.lookup y.1 = some .cell)
    (hcl : ∀ y ∈ scope.names, y.2 = .free → ∃ c, X.env.cells.lookup y.1 = some c) (hl : Nc.length = n0 + caps.length)
    (hcap : ∀ (i j : Nat) (x : Str), Nc[n0 + i]? = some x → caps[i]? = some j → X.N[j]? = some x ∧ scope.names.lookup x = some .free) : CapOk X Nc n0 caps scope (clOf X.env.cells scope.names []) := by
  have frees : ∀ (l : List (Str × NameKind)) (y : Str), (∀ p ∈ l, p.2 ≠ .cell) → (∀ p ∈ l, p.2 = .free → sc.names.lookup p.1 = some .cell) →
      ((l.map fun (n, k) => if (k == NameKind.free && X.env.scope.kind == .function && X.env.kindOf n == some .cell) then (n, NameKind.cell) else (n, k)).lookup y = some .cell ∨ (l.map fun (n, k) => if (k == NameKind.free && X.env.scope.kind == .function && X.env.kindOf n == some .cell) then (n, NameKind.cell) else (n, k)).lookup y = some .free) → (y, NameKind.free) ∈ l := by
    intro l y
    induction l with
    | nil => intro _ _ e; rcases e with e | e <;> cases e
    | cons p r ih =>
      intro h1 h2 e
      obtain ⟨n, k⟩ := p
      have c1 := h1 (n, k) List.mem_cons_self
      rw [List.map_cons, List.lookup_cons] at e
      have hfst : (if (k == NameKind.free && X.env.scope.kind == .function && X.env.kindOf n == some .cell) then (n, NameKind.cell) else (n, k)).1 = n := by split <;> rfl
      by_cases ey : y = n
      · subst ey
        simp only [hfst, beq_self_eq_true] at e
        by_cases hk : k = .free
        · subst hk; exact List.mem_cons_self
        · have hk' : (k == NameKind.free) = false := beq_eq_false_iff_ne.mpr hk
          simp only [hk', Bool.false_and, Bool.false_eq_true, if_false] at e
          rcases e with e | e
          · cases e; exact absurd rfl c1
          · cases e; exact absurd rfl hk
      · have ey' : (y == n) = false := beq_eq_false_iff_ne.mpr ey
        simp only [hfst, ey'] at e
        exact List.mem_cons_of_mem _ (ih (fun p hp => h1 p (List.mem_cons_of_mem _ hp)) (fun p hp => h2 p (List.mem_cons_of_mem _ hp)) e)
  refine ⟨fun y c e => clOf_mem _ _ [] (fun p hp => by cases hp) _ (lookup_mem e), fun y e => ?_, fun i j x e1 e2 => ?_, hl⟩
  · have hm := frees scope.names y hcell hfree e
    obtain ⟨c, hc⟩ := hcl _ hm rfl
    obtain ⟨d, hd⟩ := lookup_some (clOf_has X.env.cells scope.names [] y c hm hc)
    exact ⟨d, hd⟩
  · obtain ⟨a1, a2⟩ := hcap i j x e1 e2
    have a3 := hfree _ (lookup_mem a2) rfl
    refine ⟨a1, by rw [hsc]; exact a3, ?_⟩
    have rl : ∀ (l : List (Str × NameKind)), l.lookup x = some .free → (l.map fun (n, k) => if (k == NameKind.free && X.env.scope.kind == .function && X.env.kindOf n == some .cell) then (n, NameKind.cell) else (n, k)).lookup x = some .cell := by
      intro l
      induction l with
      | nil => intro e; cases e
      | cons p r ih =>
        intro e
        obtain ⟨n, k⟩ := p
        rw [List.map_cons, List.lookup_cons]
        rw [List.lookup_cons] at e
        have hfst : (if (k == NameKind.free && X.env.scope.kind == .function && X.env.kindOf n == some .cell) then (n, NameKind.cell) else (n, k)).1 = n := by split <;> rfl
        by_cases ex : x = n
        · subst ex
          simp only [beq_self_eq_true] at e
          cases e
          have c3 : X.env.kindOf x = some .cell := by show X.env.scope.names.lookup x = _; rw [hsc]; exact a3
          have c4 : X.env.scope.kind = .function := by rw [hsc]; exact hkf
          simp only [hfst, beq_self_eq_true, c3, c4, Bool.and_true, if_true]
        · have ex' : (x == n) = false := beq_eq_false_iff_ne.mpr ex
          simp only [ex'] at e
          simp only [hfst, ex']
          exact ih e
    exact rl _ a2
end DL

set_option maxHeartbeats 4000000

namespace DL
open PySem PySem.Spec PyProof.Rows L2

/-! ### what a block sees, by looking -/
def capFB (sc names : List (Str × NameKind)) : Bool := names.all fun y => !(decide (y.2 = NameKind.free)) || decide (sc.lookup y.1 = some NameKind.cell)
theorem capF {sc scope : Scope} (h : capFB sc.names scope.names = true) : ∀ y ∈ scope.names, y.2 = .free → sc.names.lookup y.1 = some .cell := fun y hy hf => by
  have := List.all_eq_true.mp h y hy
  rw [Bool.or_eq_true] at this
  rcases this with z | z
  · rw [decide_eq_true hf] at z; cases z
  · exact of_decide_eq_true z
def capB (N : List Str) (names : List (Str × NameKind)) : List Str → List Nat → Bool
  | x :: xs, j :: js => decide (N[j]? = some x) && decide (names.lookup x = some NameKind.free) && capB N names xs js
  | _, _ => true
theorem capB_get {N : List Str} {names : List (Str × NameKind)} : ∀ {xs : List Str} {js : List Nat}, capB N names xs js = true → ∀ (i j : Nat) (x : Str), xs[i]? = some x → js[i]? = some j → N[j]? = some x ∧ names.lookup x = some .free
  | [], _, _, i, _, _, e, _ => by simp at e
  | _ :: _, [], _, i, _, _, _, e => by simp at e
  | x :: xs, j :: js, h, 0, j', x', e1, e2 => by
    unfold capB at h
    rw [Bool.and_eq_true, Bool.and_eq_true] at h
    simp at e1 e2
    subst e1 e2
    exact ⟨of_decide_eq_true h.1.1, of_decide_eq_true h.1.2⟩
  | x :: xs, j :: js, h, i + 1, j', x', e1, e2 => by
    unfold capB at h
    rw [Bool.and_eq_true] at h
    exact capB_get h.2 i j' x' (by simpa using e1) (by simpa using e2)
theorem capB_ok {X : Cx} {N : List Str} {Nc : List Str} {n0 : Nat} {caps : List Nat} {scope : Scope} (hN : X.N = N) (h : capB N scope.names (Nc.drop n0) caps = true) :
    ∀ (i j : Nat) (x : Str), Nc[n0 + i]? = some x → caps[i]? = some j → X.N[j]? = some x ∧ scope.names.lookup x = some .free := fun i j x e1 e2 => by
  rw [hN]
  exact capB_get h i j x (by rw [List.getElem?_drop]; exact e1) e2

section
variable {X : Cx} {E : XK} {pos p p1 p2 : Pos} {a e : Expr} {x : Str}
/-! ### new lists -/
def sRetF (f : DSt → M (List D)) (sd : DSt) : M O := (f sd).bind fun ds => .ok (.rt (.ow ds))
theorem psd_retF {f : DSt → M (List D)} (h : PFd X E e f) : PSd X E (.Return (some e) pos) (sRetF f) := by
  obtain ⟨t, p, q⟩ := h
  refine ⟨_, ps_ret p, fun H0 B Hf sd σ H D sr h => ?_⟩
  refine q H0 B Hf sd σ H _ sr (PoS.bindF sr h fun ds p xs Hf1 H1 _ g1 sr1 e1 e2 e3 e4 h1 => ?_)
  exact h1 _ Hf1 H1 (Same.refl _) sr1.fin ⟨p, rfl, sr.all.free e1, e2, xs, e3, e4⟩
/-- list(x), x our own list -/
def fCopyO (i : Nat) (sd : DSt) : M (List D) := match sd[i]? with
  | some (some (.ow ds)) => .ok ds
  | _ => .bad
theorem pfd_copyO (i : Nat) (hg : Gl X "list") (hm : X.mg "list" = none) (hv : bootBuiltins "list" = some (.type "list")) (hi : X.N[i]? = some x := by rfl) (hvis : Vis X.env.scope x := by first | exact Or.inl rfl | exact Or.inr (Or.inl rfl) | exact Or.inr (Or.inr rfl))
    (hd : (x == ("__debug__" : Str)) = false := by decide) (hcd : (x == ("__classdict__" : Str)) = false := by decide)
    (he : starEach [.Name x p1] X.env = (false, eval (.Name x p1) X.env) :: starEach [] X.env := by rfl) (hpl : (backTo pos (starEach ([] : List Expr) X.env)).any (·.1) = false := by rfl) : PFd X E (.Call (.Name "list" p) [.Name x p1] [] pos) (fCopyO i) := by
  refine ⟨_, pe_callTy call_list_of hg hm hv (pa_cons (pe_var hi hvis hd hcd) pa_nil he) (by decide) (by decide) he hpl, fun H0 B Hf sd σ H Q sr h => ?_⟩
  unfold fCopyO at h
  split at h
  · rename_i ds ei
    obtain ⟨q, z1, z2, z3, xs, z4, z5⟩ := sr.ow i _ ei rfl
    exact ⟨_, z1, q, xs, rfl, .inl (SqL.of z4), fun l hl => h l xs Hf _ ⟨Same.refl _, sr.sub.trans (same_upd hl _), same_upd hl _, fun _ _ e => e⟩ hl (sr.sub.free hl) upd_same z5⟩
  · exact h.elim

/-! ### - x -/
end

/-! ### t[::-1] -/
section
variable {prog : Program} {w : World} {A : Around} {E : Value → Shared → Prop} {s : Shared}
theorem fm_congr {α β : Type} {f g : α → Option β} : ∀ {l : List α}, (∀ a ∈ l, f a = g a) → l.filterMap f = l.filterMap g
  | [], _ => rfl
  | a :: l, h => by
    rw [List.filterMap_cons, List.filterMap_cons, h a List.mem_cons_self, fm_congr fun b hb => h b (List.mem_cons_of_mem _ hb)]
end
theorem Vals.rev : ∀ {xs : List V} {us : List Value}, Vals xs us → Vals xs.reverse us.reverse
  | _, _, .nil => .nil
  | _, _, .cons r t => by
    rw [List.reverse_cons, List.reverse_cons]
    exact (Vals.rev t).append (.cons r .nil)
theorem Reps.rev {K : PySem.W.Frag} {H : Hp} : ∀ {ds : List D} {xs : List V}, Reps K H ds xs → Reps K H ds.reverse xs.reverse
  | [], xs, h => by rw [reps_nil.mp h]; exact Reps.nil
  | d :: ds, xs, h => by
    obtain ⟨x, r, rfl, h1, h2⟩ := reps_cons.mp h
    rw [List.reverse_cons, List.reverse_cons]
    exact (Reps.rev h2).append (Reps.cons h1 Reps.nil)
section
variable {X : Cx} {E : XK} {pos p2 p3 p4 : Pos} {e : Expr}
end
end DL

set_option maxHeartbeats 4000000

namespace DL
open PySem PySem.Spec PyProof.Rows L2

section
variable {X : Cx} {E : XK} {pos : Pos} {a b c : Expr}
/-! ### what never runs -/
/-! ### a op b op c -/
/-! ### range(a, b) -/
end
end DL

set_option maxHeartbeats 4000000
set_option linter.all false

namespace DL
open PySem PySem.Spec PyProof.Rows L2

/-! ### exceptions: the record, its notes -/
/-- the exception's record at a: its class, its dict, the newest note at T (none yet: T is a itself), which says fl -/
def Nt (h : Heap) (a : Addr) (c : Value) (dx : Option Addr) (T : Addr) (fl : Value) : Prop :=
  ∃ oe vs, h.get? a = some oe ∧ oe.cls = c ∧ oe.dict = dx ∧ oe.data = .fields vs ∧ 1 < vs.size ∧
    ((T = a ∧ vs[1]? = some .none) ∨ (T ≠ a ∧ vs[1]? = some (.ref T) ∧ ∃ oT ts, h.get? T = some oT ∧ oT.data = .fields ts ∧ ts[3]? = some fl))
/-- all but a, T is as it was; of the frames the slots may be others -/
structure Ch (fr : List Addr) (a T : Addr) (h h' : Heap) : Prop where
  keep : ∀ b o, b ≠ a → b ≠ T → b ∉ fr → h.get? b = some o → h'.get? b = some o
  slot : ∀ b o, b ≠ a → b ≠ T → h.get? b = some o → ∃ sl, h'.get? b = some { o with slots := sl }

section
variable {M : Model} {A : Around} {E : Value → Shared → Prop} {s : Shared}
theorem Ch.trans {fr : List Addr} {a T T' U : Addr} {h h1 h2 : Heap} (x : Ch fr a T h h1) (y : Ch fr a T' h1 h2) (q : ∀ b o, b ≠ a → b ≠ U → h.get? b = some o → b ≠ T ∧ b ≠ T') : Ch fr a U h h2 :=
  ⟨fun b o n1 n2 nf e => y.keep b o n1 (q b o n1 n2 e).2 nf (x.keep b o n1 (q b o n1 n2 e).1 nf e), fun b o n1 n2 e => by
    obtain ⟨sl, e1⟩ := x.slot b o n1 (q b o n1 n2 e).1 e
    obtain ⟨sl', e2⟩ := y.slot b _ n1 (q b o n1 n2 e).2 e1
    exact ⟨sl', e2⟩⟩

end
end DL

set_option maxHeartbeats 4000000
set_option linter.all false

namespace DL
open PySem PySem.Spec PyProof.Rows L2

/-- how an exception lies behind a call -/
def CX1 (P : Program) (w : World) : CXT := fun outer H s E e s' => ∃ a H' c dx T, e = .ref a ∧ s'.os = s.os ∧ AllBare s'.gens ∧ Un (frs outer) [] H H' s.heap s'.heap ∧ HOk P w H' s'.heap ∧ Nt s'.heap a c dx T .none ∧
  H' a = none ∧ H' T = none ∧ s.heap.objs.size ≤ a ∧ s.heap.objs.size ≤ T ∧ E c dx H'
/-- an exception that was raised or came back here does what the context wants -/
def Out (X : Cx) (E : XK) : Prop := ∀ (pins : List (Addr × Obj)) (σ : L2.St) (H : Hp) (s : Shared) (a : Addr) (c : Value) (dx : Option Addr) (T : Addr), Inv X pins σ H s → Nt s.heap a c dx T .none → H a = none → H T = none →
  X.s₀.heap.objs.size ≤ a → X.s₀.heap.objs.size ≤ T → E c dx H → X.xe (.ref a) s
theorem Out.passes {X : Cx} {E : XK} (o : Out X E) : Passes (CX1 X.prog X.w) X E := by
  rintro pins σ H s e s' I ⟨a, H', c, dx, T, rfl, os, bare, un, hok, hn, na, nT, za, zT, q⟩
  exact o pins σ H' s' a c dx T (I.call' os un hok bare (fun b z => absurd z (by simp))) hn na nT (Nat.le_trans I.sz za) (Nat.le_trans I.sz zT) q
/-! ### defs that raise -/
def PoC (K : PySem.W.Frag) (Hf H : Hp) (r : M S) (Q : VK) (E : XK) : Prop := match r with
  | .ok s => ∀ v Hf' H', Gr Hf H Hf' H' → RS K H Hf' H' s v → Q v H'
  | .ex x => ∀ c dx Hf' H', Gr Hf H Hf' H' → RepX K Hf' H' x c dx → E c dx H'
  | .bad => False
/-- a def that raises nothing here, too -/
theorem PoC.bind {K : PySem.W.Frag} {E : XK} {Hf H : Hp} {r : M S} {Q : VK} (h : Po K E (rV K) Hf H (r.bind S.toD) Q) : PoC K Hf H r Q E := by
  cases r with
  | bad => exact h
  | ex x => exact h
  | ok s =>
    cases s with
    | im d => exact fun v Hf' H' g rv => h v Hf' H' g rv
    | ow es =>
      rintro v Hf' H' g2 ⟨p, rfl, e1, e2, xs, e3, e4⟩
      refine h _ (upd Hf' p (.lst xs)) H' ⟨g2.fz.trans (same_upd e2 _), fun b u q => ?_, g2.all, fun a h1 h2 => ?_⟩ (rep_lst.mpr ⟨p, xs, rfl, SqL.of upd_same, e4.mono (same_upd e2 _)⟩)
      · by_cases hb : b = p
        · subst hb; rw [upd_same] at q; rw [e3]; exact q
        · rw [upd_ne hb] at q; exact g2.sub b u q
      · have : a ≠ p := fun z => h1.nn (z ▸ e1)
        rw [upd_ne this]; exact g2.ban a h1 h2
    | od kvs => exact h.elim
    | dk kvs => exact h.elim
    | xc x => exact h.elim
    | fn x => exact h.elim
section
variable {X : Cx} {E : XK} {pos : Pos} {a : Expr}
end
end DL

set_option maxHeartbeats 4000000
set_option linter.all false
set_option maxRecDepth 100000

namespace DL
open PySem PySem.Spec PySem.Calls PySem.Builtin PySem.Builtin.ObjectAttr PyProof.Rows L2 PySem.W

/-! ### classes of exceptions -/
def exMro : List Value := [.type "ValueError", .type "Exception", .type "BaseException", .type "object"]
def exOnly : List Value → Bool
  | [] => false
  | .ref _ :: r => exOnly r
  | l => l == exMro
structure XCls (K : Frag) (C : Addr) : Prop where
  sa : findIn K (.ref C) "__setattr__" = some (some (.builtin "object.__setattr__"))
  ga : findIn K (.ref C) "__getattribute__" = some (some (.builtin "BaseException.__getattribute__"))
  gn : findIn K (.ref C) "__getattr__" = some none
  hd : hasDictIn K C = true
  ov : (clsIn K C).any (fun cd => exOnly cd.mro) = true

section
variable {prog : Program} {w : World} {A : Around} {s : Shared} {K : Frag} {x C : Addr} {name : Str} {v : Value} {R : Result → Shared → Prop}
end
end DL

set_option maxHeartbeats 4000000
set_option linter.all false
set_option maxRecDepth 100000

namespace DL
open PySem PySem.Spec PySem.Calls PySem.Builtin PySem.Builtin.ObjectAttr PyProof.Rows L2 PySem.W

/-! ### an exception is made -/
section
variable {X : Cx} {pins : List (Addr × Obj)} {σ : L2.St} {H : Hp} {s : Shared} {a C : Addr} {f : Str} {y : V} {u : Value} {A : Around} {E : Value → Shared → Prop}
end

section
variable {X : Cx} {o value : Expr} {ta tv : TE} {f : Str} {pos pos' : Pos}
end
end DL

set_option maxHeartbeats 4000000
set_option linter.all false
set_option maxRecDepth 100000

namespace DL
open PySem PySem.Spec PySem.Calls PySem.Builtin PySem.Builtin.ObjectAttr PyProof.Rows L2 PySem.W

structure XC (K : Frag) (C fI : Addr) : Prop where
  at_ : ∃ bm N nm qn bs hdct sn sub ab col dd k0 k1 k2 k3 k5, ∀ h : Heap, K.In h → h.get? C = some (excClassObj nm qn C N bs bm hdct sn sub ab col dd k0 k1 k2 k3 k5 "ValueError.__new__") ∧ OwnTail h exMro bm ∧
    ∃ mN, h.Ns N mN ∧ mN "__init__" = some (.ref fI)
section
variable {prog : Program} {w : World} {A : Around} {E : Value → Shared → Prop} {h : Heap} {g : Array GenState} {d : Drawn} {t : Nat} {os : OsState}
variable {nm q : Str} {C N : Addr} {bs bm bmB : List Value} {hdct : Bool} {sn : List Str} {sub : List Value} {ab : Bool} {col : Option Bool} {dd : Option Addr} {k0 k1 k2 k3 k5 : Option Value} {B newId initId : String}
end

section
variable {X : Cx} {k : Nat} {fI C : Addr} {fd : FuncData} {self p f x : Str} {np pos cpos : Pos} {e : Expr} {es : List Expr} {t : TA}
end
end DL

set_option maxHeartbeats 4000000
set_option linter.all false
set_option maxRecDepth 100000

namespace DL
open PySem PySem.Spec PySem.Calls PySem.Builtin PySem.Builtin.ObjectAttr PyProof.Rows L2 PySem.W

section
variable {M : Model} {A : Around} {E : Value → Shared → Prop} {s : Shared} {env : Env}
end

section
variable {X : Cx} {E : XK} {k : Nat} {fI C : Addr} {fd : FuncData} {self p f x : Str} {np pos cpos : Pos} {e : Expr} {es : List Expr} {t : TA}
end
end DL

set_option maxHeartbeats 4000000
set_option linter.all false
set_option maxRecDepth 100000

namespace DL
open PySem PySem.Spec PySem.Calls PySem.Builtin PySem.Builtin.ObjectAttr PyProof.Rows L2 PySem.W

/-! ### an exception is caught -/
section
variable {X : Cx} {pins : List (Addr × Obj)} {σ : L2.St} {H : Hp} {s : Shared} {h' : Heap} {a T C : Addr} {e : Value}
/-- what lies at the address is no record of the frame's -/
structure Fresh (X : Cx) (pins : List (Addr × Obj)) (b : Addr) : Prop where
  lo : X.s₀.heap.objs.size ≤ b
  nl : b ≠ X.env.locals
  nc : ∀ x c, X.env.cells.lookup x = some c → c ≠ b
  np : ∀ p ∈ X.pn ++ pins, p.1 ≠ b
theorem fresh_of (I : Inv X pins σ H s) {b : Addr} (h : s.heap.objs.size ≤ b) : Fresh X pins b where
  lo := Nat.le_trans I.sz h
  nl := Nat.ne_of_gt (Nat.lt_of_lt_of_le I.lt h)
  nc := fun x c q => by
    obtain ⟨v, o, ho, _⟩ := I.cell x c q
    exact Nat.ne_of_lt (Nat.lt_of_lt_of_le (Heap.lt_size ho) h)
  np := fun p hp => Nat.ne_of_lt (Nat.lt_of_lt_of_le (Heap.lt_size (I.pin p hp).1) h)
theorem inv_track {o : HO} (I : Inv X pins σ H s) (na : H a = none) (fa : Fresh X pins a) (ok : ObjOk X.prog X.w (upd H a o) s.heap a o) : Inv X pins σ (upd H a o) s := by
  have B := I.base
  have nn : ∀ b, b ≠ a → H b = none → upd H a o b = none := fun b nb q => by rw [upd_ne nb]; exact q
  have lt : ∀ {b : Addr} {u : Obj}, X.s₀.heap.get? b = some u → b ≠ a := fun q => Nat.ne_of_lt (Nat.lt_of_lt_of_le (Heap.lt_size q) fa.lo)
  have sm := same_upd na o
  refine ⟨I.ok, I.os, I.bare, ⟨B.keep, B.slot, fun b u q n nx => nn b (lt q) (B.free b u q n nx), B.there, fun b xs q => sm _ _ (B.tups b xs q), fun b u v q => sm _ _ (B.frzs b u v q), fun b l c r q => sm _ _ (B.tbls b l c r q)⟩, I.loc, I.cell, nn _ (Ne.symm fa.nl) I.free, fun y c q => nn _ (fa.nc y c q) (I.freeC y c q), fun q hq => ?_, fun b u q => ?_, I.len⟩
  · obtain ⟨p1, p2, p3⟩ := I.pin q hq
    exact ⟨p1, nn _ (fa.np q hq) p2, p3⟩
  · by_cases hb : b = a
    · subst hb; rw [upd_same] at q; cases q; exact ok
    · rw [upd_ne hb] at q
      exact (I.hok b u q).stay (fun _ _ _ z => z) (fun c z => sm _ _ z) (fun c xs z => sm _ _ z) fun c _ _ z => sm _ _ z
end
theorem SR.drop {K : Frag} {H0 Hf H : Hp} {B : Addr → Prop} {sd : DSt} {σ : L2.St} (r : SR K H0 B Hf sd σ H) (i : Nat) : SR K H0 B Hf (sd.set i none) (σ.set i none) H := by
  have bk : ∀ {j : Nat} {t : S}, (sd.set i none)[j]? = some (some t) → i ≠ j ∧ sd[j]? = some (some t) := fun {j t} q => by
    by_cases hj : i = j
    · subst hj
      have hlt : i < sd.length := by
        have := (List.getElem?_eq_some_iff.mp q).1; simpa using this
      rw [List.getElem?_set_self hlt] at q
      cases q
    · rw [List.getElem?_set_ne hj] at q
      exact ⟨hj, q⟩
  refine ⟨r.sub, r.all, r.ban, r.bt, by rw [List.length_set, List.length_set]; exact r.len, fun j t q z => ?_, fun j t q z => ?_, fun j k t u p hjk q1 o1 q2 o2 q3 q4 => ?_⟩
  · rw [List.getElem?_set_ne (bk q).1]; exact r.imS j t (bk q).2 z
  · rw [List.getElem?_set_ne (bk q).1]; exact r.ow j t (bk q).2 z
  · rw [List.getElem?_set_ne (bk q1).1] at q3
    rw [List.getElem?_set_ne (bk q2).1] at q4
    exact r.sep j k t u p hjk (bk q1).2 o1 (bk q2).2 o2 q3 q4
/-- the class is caught by that clause -/
structure Hits (K : Frag) (C D : Addr) : Prop where
  sub : subIn K (.ref C) (.ref D) = some true
  exc : subIn K (.ref D) (.type "BaseException") = some true
  ty : typeIn K (.ref D) = some (.type "type")
  tt : instIn K (.ref D) (.type "type") = some true
  nt : instIn K (.ref D) (.type "tuple") = some false
end DL

set_option maxHeartbeats 4000000
set_option linter.all false
set_option maxRecDepth 100000

namespace DL
open PySem PySem.Spec PySem.Calls PySem.Builtin PySem.Builtin.ObjectAttr PyProof.Rows L2 PySem.W

section
variable {X : Cx} {E : XK} {a : Expr}
end
end DL

set_option maxHeartbeats 4000000
set_option linter.all false
set_option maxRecDepth 100000

namespace DL
open PySem PySem.Spec PySem.Calls PySem.Builtin PySem.Builtin.ObjectAttr PyProof.Rows L2 PySem.W

section
variable {prog : Program} {w : World} {A : Around} {E : Value → Shared → Prop} {s : Shared} {K : Frag} {x C : Addr} {ox : Obj} {od : Option Obj} {name : Str} {tk : Tok} {v : Value} {R : Result → Shared → Prop}
structure XKit (K : Frag) (C : Addr) : Prop where
  ha : findIn K (.ref C) "__class__" = some (some (.builtin "object.__class__"))
  hn : specialIn K (.builtin "object.__class__") "__get__" = some (some (.builtin "getset_descriptor.__get__"))
  ht : takesIn K (.builtin "object.__class__") = some true
  hm : mroIn K C (.type "object") = some true
end
end DL

set_option maxHeartbeats 4000000
set_option linter.all false
set_option maxRecDepth 100000

namespace DL
open PySem PySem.Spec PySem.Calls PySem.Builtin PySem.Builtin.ObjectAttr PyProof.Rows L2 PySem.W

/-! ### what is asked of an exception that was caught -/
section
variable {X : Cx} {E : XK} {pos p p2 p3 : Pos} {vn cn f : Str}
/-- what is known of the classes that may be raised -/
structure XKnow (K : Frag) (y : Str) (C : Addr) : Prop where
  at_ : nsIn K mainGlobals y = some (some (.ref C))
  cl : XCls K C
  kt : XKit K C
end
/-! ### defs whose first argument is an exception -/
section
variable {X : Cx} {E : XK} {pos p p2 : Pos} {vn : Str}
end
end DL

set_option maxHeartbeats 4000000
set_option linter.all false
set_option maxRecDepth 100000

namespace DL
open PySem PySem.Spec PyProof.Rows L2

/-! ### zip of lists and tuples -/
/-- an iterator of a list (false), of a tuple (true) -/
def ItK (t : Bool) (h : Heap) (i l : Addr) (k : Nat) : Prop := ∃ o, h.get? i = some o ∧ o.cls = .type (if t then "tuple_iterator" else "list_iterator") ∧ o.data = .fields #[.ref l, .int k 0]
def SqK (t : Bool) (h : Heap) (l : Addr) (xs : Array Value) : Prop := ∃ o, h.get? l = some o ∧ o.cls = .type (if t then "tuple" else "list") ∧ ∃ n, o.data = .seq xs n
theorem ItK.at {t : Bool} {h h' : Heap} {i l : Addr} {k : Nat} (x : ItK t h i l k) (q : ∀ o, h.get? i = some o → h'.get? i = some o) : ItK t h' i l k := let ⟨o, e, r⟩ := x; ⟨o, q o e, r⟩
theorem SqK.at {t : Bool} {h h' : Heap} {l : Addr} {xs : Array Value} (x : SqK t h l xs) (q : ∀ o, h.get? l = some o → h'.get? l = some o) : SqK t h' l xs := let ⟨o, e, r⟩ := x; ⟨o, q o e, r⟩

section
variable {prog : Program} {w : World} {A : Around} {E : Value → Shared → Prop} {s : Shared}
end
section
variable {X : Cx} {E : XK} {pos p p2 : Pos} {es : List Expr} {k : Nat}
end
end DL

set_option maxHeartbeats 4000000
set_option linter.all false
set_option maxRecDepth 100000

namespace DL
open PySem PySem.Spec PyProof.Rows L2

/-! ### a new list times an int -/
section
variable {X : Cx} {E : XK} {pos : Pos} {a b : Expr}
end
end DL

set_option maxHeartbeats 4000000
set_option linter.all false
set_option maxRecDepth 100000

namespace DL
open PySem PySem.Spec PyProof.Rows L2 PySem.W
/-! ### what is asked of the classes, to be decided -/
section
variable {X : Cx} {E : XK} {pos p p2 : Pos} {vn : Str}
end
end DL

set_option maxHeartbeats 4000000
set_option linter.all false
set_option maxRecDepth 100000

namespace DL
open PySem PySem.Spec PyProof.Rows L2 PySem.W
/-! ### targets of a comprehension that are tuples -/
/-! ### an int of the module -/
end DL

set_option maxHeartbeats 4000000
set_option linter.all false
set_option maxRecDepth 100000

namespace DL
open PySem PySem.Spec PyProof.Rows L2
open AutoSeq1 (wpAny_loadPart')

/-! ### enumerate(a tuple) -/
section
variable {prog : Program} {w : World} {A : Around} {E : Value → Shared → Prop} {s : Shared}
end
section
variable {X : Cx} {E : XK} {pos p p2 : Pos} {es : List Expr} {k : Nat}
end
end DL

set_option maxHeartbeats 4000000
set_option linter.all false
set_option maxRecDepth 100000

namespace DL
open PySem PySem.Spec PyProof.Rows L2 PySem.W

/-! ### sorted, of fewer than 64 tuples of ints and texts -/
section
variable {prog : Program} {w : World} {A : Around} {E : Value → Shared → Prop} {s : Shared}
end

def headS : List V → Bool
  | .str _ :: _ => true
  | _ => false
def headI : List V → Bool
  | .int _ :: _ => true
  | _ => false
def RowsH (h : Heap) : List Value → List (List V) → Prop := Paired fun u y => ∃ a us, u = Value.ref a ∧ IsTup h a us.toArray ∧ Vals y us
theorem RowsH.mono {h h' : Heap} {us : List Value} {ys : List (List V)} (k : ∀ b o, h.get? b = some o → h'.get? b = some o) (r : RowsH h us ys) : RowsH h' us ys :=
  Paired.mapP r fun u y q => by
    obtain ⟨a, vs, e, ⟨o, e1, e2⟩, e3⟩ := q
    exact ⟨a, vs, e, ⟨o, k _ _ e1, e2⟩, e3⟩
theorem RowsH.firstS {h : Heap} : ∀ {us : List Value} {ys : List (List V)}, RowsH h us ys → ys.all headS = true → ∃ fs, KatTups h us fs ∧ (∀ v ∈ fs, ∃ x t, v = Value.str x t) ∧ fs.length = us.length
  | _, _, .nil, _ => ⟨[], KatTups.nil, fun v hv => (by cases hv), rfl⟩
  | _, y :: ys, .cons q r, hs => by
    rw [List.all_cons, Bool.and_eq_true] at hs
    obtain ⟨fs, k1, k2, k3⟩ := RowsH.firstS r hs.2
    obtain ⟨a, vs, rfl, ⟨o, e1, e2, n, e3⟩, e4⟩ := q
    cases y with
    | nil => simp [headS] at hs
    | cons z y =>
      cases z with
      | str x =>
        cases e4 with
        | cons rx rr =>
          obtain ⟨t, rfl⟩ := rx
          exact ⟨Value.str x t :: fs, KatTups.cons e1 e2 e3 (by simp) k1, fun v hv => by
            rcases List.mem_cons.mp hv with rfl | hv
            · exact ⟨x, t, rfl⟩
            · exact k2 v hv, by rw [List.length_cons, List.length_cons, k3]⟩
      | _ => simp [headS] at hs
theorem RowsH.firstI {h : Heap} : ∀ {us : List Value} {ys : List (List V)}, RowsH h us ys → ys.all headI = true → ∃ fs, KatTups h us fs ∧ (∀ v ∈ fs, ∃ x t, v = Value.int x t) ∧ fs.length = us.length
  | _, _, .nil, _ => ⟨[], KatTups.nil, fun v hv => (by cases hv), rfl⟩
  | _, y :: ys, .cons q r, hs => by
    rw [List.all_cons, Bool.and_eq_true] at hs
    obtain ⟨fs, k1, k2, k3⟩ := RowsH.firstI r hs.2
    obtain ⟨a, vs, rfl, ⟨o, e1, e2, n, e3⟩, e4⟩ := q
    cases y with
    | nil => simp [headI] at hs
    | cons z y =>
      cases z with
      | int x =>
        cases e4 with
        | cons rx rr =>
          obtain ⟨t, rfl⟩ := rx
          exact ⟨Value.int x t :: fs, KatTups.cons e1 e2 e3 (by simp) k1, fun v hv => by
            rcases List.mem_cons.mp hv with rfl | hv
            · exact ⟨x, t, rfl⟩
            · exact k2 v hv, by rw [List.length_cons, List.length_cons, k3]⟩
      | _ => simp [headI] at hs
theorem RowsH.get {h : Heap} : ∀ {us : List Value} {ys : List (List V)} {i : Nat} {y : List V}, RowsH h us ys → ys[i]? = some y → ∃ a vs, us.getD i Value.none = Value.ref a ∧ IsTup h a vs.toArray ∧ Vals y vs
  | _, _, _, _, .nil, e => by simp at e
  | _, _, 0, _, .cons q _, e => by
    simp at e
    subst e
    obtain ⟨a, vs, rfl, e1, e2⟩ := q
    exact ⟨a, vs, rfl, e1, e2⟩
  | _, _, i + 1, _, .cons _ r, e => by
    obtain ⟨a, vs, e1, e2, e3⟩ := RowsH.get (i := i) r (by simpa using e)
    exact ⟨a, vs, by simpa using e1, e2, e3⟩
/-- rows, tracked -/
def RowsT (H : Hp) : List V → List (List V) → Prop := Paired fun z y => ∃ a, z = V.ref a ∧ H a = some (.tup y)
theorem rows_h {X : Cx} {pins : List (Addr × Obj)} {σ : L2.St} {H : Hp} {s : Shared} (I : Inv X pins σ H s) : ∀ {zs : List V} {ys : List (List V)} {us : List Value}, RowsT H zs ys → Vals zs us → RowsH s.heap us ys
  | _, _, _, .nil, .nil => .nil
  | _, _, _, .cons q r, .cons v t => .cons (by
      obtain ⟨a, rfl, e⟩ := q
      cases v
      obtain ⟨its, rv, p, _⟩ := I.tuple (SqT.of e)
      exact ⟨a, its, rfl, p, rv⟩) (rows_h I r t)
section
variable {X : Cx} {E : XK}
theorem RowsT.mono {H H' : Hp} {xs : List V} {ys : List (List V)} (e : Same H H') (r : RowsT H xs ys) : RowsT H' xs ys := Paired.mapP r fun _ _ q => by
  obtain ⟨a, h1, h2⟩ := q
  exact ⟨a, h1, e _ _ h2⟩
/-! ### x in a tuple of the module -/
variable {e : Expr} {x : Str} {pos p2 : Pos} {a : Addr} {cs : List V} {f : DSt → M D}
/-! ### xs[i] = v, of our own list -/
theorem Reps.set {K : PySem.W.Frag} {H : Hp} {d : D} {x : V} (h : Rep K H d x) : ∀ {ds : List D} {xs : List V} (j : Nat), Reps K H ds xs → Reps K H (ds.set j d) (xs.set j x)
  | [], _, _, r => by rw [reps_nil.mp r]; exact Reps.nil
  | _ :: ds, _, 0, r => by
    obtain ⟨y, t, rfl, _, q⟩ := reps_cons.mp r
    exact Reps.cons h q
  | _ :: ds, _, j + 1, r => by
    obtain ⟨y, t, rfl, z, q⟩ := reps_cons.mp r
    exact Reps.cons z (Reps.set h j q)
/-! ### tests -/
end
/-! ### an expression whose value is dropped -/
end DL

set_option autoImplicit false
set_option maxHeartbeats 4000000
set_option linter.all false
namespace TS
open PySem PyProof.Rows

def SrtR (κ : KeyKind) (xs : Array Keyed) (i j : Nat) : Prop := ∀ p q, i ≤ p → p ≤ q → q < j → κ.kle (KK κ xs p) (KK κ xs q)
def DscR (κ : KeyKind) (xs : Array Keyed) (i j : Nat) : Prop := ∀ p q, i ≤ p → p ≤ q → q < j → κ.kle (KK κ xs q) (KK κ xs p)
structure SB (kd : SortKind) (a₀ : Array Keyed) (st : SortSt) : Prop where
  perm : (arrOf st).Perm a₀
  kind : kindOf st = kd
  failed : failedOf st = none
theorem SB.size {kd : SortKind} {a₀ : Array Keyed} {st : SortSt} (h : SB kd a₀ st) : (arrOf st).size = a₀.size := h.perm.size_eq
theorem SB.setArr {kd : SortKind} {a₀ : Array Keyed} {st : SortSt} (h : SB kd a₀ st) {xs : Array Keyed} (hp : xs.Perm (arrOf st)) : SB kd a₀ (setArr st xs) := ⟨hp.trans h.perm, h.kind, h.failed⟩
/-- questions are answered, and nothing else happens -/
def LtOk (prog : Program) (w : World) (A : Around) (E : Value → Shared → Prop) (s : Shared) (κ : KeyKind) (kd : SortKind) : Prop :=
  ∀ (x y : Keyed) (a b : κ.α) (st : SortSt) (Q : Option Bool → SortSt → Prop), κ.keyOf x.1 = some a → κ.keyOf y.1 = some b → kindOf st = kd → Q (some (κ.blt a b)) st → wpS (model prog w) A E s (lt' x y) Q st
def kx (κ : KeyKind) (x : Keyed) : κ.α := (κ.keyOf x.1).getD κ.dflt
theorem KK_at {κ : KeyKind} {xs : Array Keyed} {i : Nat} {x : Keyed} (h : xs[i]? = some x) : KK κ xs i = kx κ x := by unfold KK kx; rw [h]
theorem keys_of {κ : KeyKind} {a b : Array Keyed} (h : KeysOf κ a) (hp : b.Perm a) : KeysOf κ b := fun p hm => h p ((Array.perm_iff_toList_perm.mp hp).mem_iff.mp hm)
theorem key_at {κ : KeyKind} {xs : Array Keyed} (h : KeysOf κ xs) {i : Nat} (hi : i < xs.size) : ∃ x, xs[i]? = some x ∧ κ.keyOf x.1 = some (KK κ xs i) ∧ kx κ x = KK κ xs i := by
  have e : xs[i]? = some xs[i] := getElem?_pos _ i hi
  obtain ⟨a, ha⟩ := h xs[i] (by simp)
  refine ⟨xs[i], e, ?_, (KK_at e).symm⟩
  rw [KK_at e]
  unfold kx
  rw [ha]; rfl
section
variable {prog : Program} {w : World} {A : Around} {E : Value → Shared → Prop} {s : Shared} {a₀ : Array Keyed} {κ : KeyKind} {kd : SortKind}
theorem wp_ltAt {st : SortSt} {i j : Nat} {Q : Option Bool → SortSt → Prop} (hO : LtOk prog w A E s κ kd) (hB : SB kd a₀ st) (h0 : KeysOf κ a₀) (hi : i < a₀.size) (hj : j < a₀.size)
    (h : Q (some (κ.blt (KK κ (arrOf st) i) (KK κ (arrOf st) j))) st) : wpS (model prog w) A E s (ltAt' i j) Q st := by
  obtain ⟨x, e1, k1, _⟩ := key_at (keys_of h0 hB.perm) (i := i) (by rw [hB.size]; exact hi)
  obtain ⟨y, e2, k2, _⟩ := key_at (keys_of h0 hB.perm) (i := j) (by rw [hB.size]; exact hj)
  rw [ltAt'_eq]
  refine wpS_bind (wpS_get ?_)
  change wpS _ _ _ _ (do let x ← elem' (arrOf st) i; let y ← elem' (arrOf st) j; lt' x y) Q st
  rw [elem'_eq, elem'_eq, e1, e2]
  exact wpS_bind (wpS_pure (wpS_bind (wpS_pure (hO x y _ _ st Q k1 k2 hB.kind h))))
theorem wp_rev {st : SortSt} {i j : Nat} {Q : Unit → SortSt → Prop} (h : Q () (setArr st (mirror (arrOf st) i j ((j - i) / 2)))) : wpS (model prog w) A E s (reverseSlice' i j) Q st := by
  rw [reverseSlice'_eq]; exact wpS_modify h
/-- binary insertion behind lo -/
theorem wp_bin {st : SortSt} {lo n ok : Nat} {Q : Bool → SortSt → Prop} (hO : LtOk prog w A E s κ kd) (h0 : KeysOf κ a₀) (hn : lo + n ≤ a₀.size) (hok : ok ≤ n) (hB : SB kd a₀ st) (hs : SrtR κ (arrOf st) lo (lo + ok))
    (h : ∀ st', SB kd a₀ st' → pendingOf st' = pendingOf st → (∀ k, k < lo → KK κ (arrOf st') k = KK κ (arrOf st) k) → SrtR κ (arrOf st') lo (lo + n) → Q true st') : wpS (model prog w) A E s (binarySort' lo n ok) Q st := by
  rw [binarySort'_eq]
  refine wpS_bind (wpS_mono (wpS_forRange (I := fun k c st' => c = (none, ()) ∧ SB kd a₀ st' ∧ pendingOf st' = pendingOf st ∧ (∀ k, k < lo → KK κ (arrOf st') k = KK κ (arrOf st) k) ∧ SrtR κ (arrOf st') lo (lo + min k n))
    (Q := fun c st' => c = (none, ()) ∧ SB kd a₀ st' ∧ pendingOf st' = pendingOf st ∧ (∀ k, k < lo → KK κ (arrOf st') k = KK κ (arrOf st) k) ∧ SrtR κ (arrOf st') lo (lo + n)) ?step ?fin ?init) ?post)
  case post =>
    rintro c st' ⟨rfl, hB', hp, hk, hs'⟩
    exact wpS_pure (h st' hB' hp hk hs')
  case init =>
    refine ⟨rfl, hB, rfl, fun _ _ => rfl, fun p q h1 h2 h3 => ?_⟩
    by_cases h4 : ok = 0
    · have : p = q := by lia
      subst this; exact KeyOrd.kle_refl _
    · exact hs p q h1 h2 (by lia)
  case fin =>
    rintro c st' ⟨hc, hB', hp, hk, hs'⟩
    refine ⟨hc, hB', hp, hk, ?_⟩
    rwa [show min (max (max ok 1) n) n = n by lia] at hs'
  case step =>
    rintro k c st' h1k hkn ⟨rfl, hB', hp, hkk, hs'⟩
    rw [show min k n = k by lia] at hs'
    have hk : lo + k < a₀.size := by lia
    refine wpS_bind (wpS_mono (wpS_forRange (I := fun x c st'' => st'' = st' ∧ ∃ l r, c = (none, l, r) ∧ l ≤ r ∧ r ≤ k ∧ r - l ≤ k - x ∧
        (∀ i, i < l → κ.kle (KK κ (arrOf st') (lo + i)) (KK κ (arrOf st') (lo + k))) ∧ (∀ i, r ≤ i → i < k → κ.klt (KK κ (arrOf st') (lo + k)) (KK κ (arrOf st') (lo + i))))
      (Q := fun c st'' => st'' = st' ∧ ∃ l r, c = (none, l, r) ∧ l ≤ k ∧
        (∀ i, i < l → κ.kle (KK κ (arrOf st') (lo + i)) (KK κ (arrOf st') (lo + k))) ∧ (∀ i, l ≤ i → i < k → κ.klt (KK κ (arrOf st') (lo + k)) (KK κ (arrOf st') (lo + i)))) ?a ?b ?c0) ?d)
    case c0 => exact ⟨rfl, 0, k, rfl, by lia, by lia, by lia, fun i hi => by lia, fun i h1 h2 => by lia⟩
    case b =>
      rintro c st'' ⟨rfl, l, r, rfl, le1, le2, hm, blw, abv⟩
      have : l = r := by lia
      subst this
      exact ⟨rfl, l, l, rfl, le2, blw, abv⟩
    case a =>
      rintro x c st'' _ hxk ⟨rfl, l, r, rfl, le1, le2, hm, blw, abv⟩
      dsimp only
      by_cases stop : l ≥ r
      · rw [if_pos stop]
        have : l = r := by lia
        subst this
        exact wpS_pure ⟨rfl, l, l, rfl, le2, blw, abv⟩
      · rw [if_neg stop]
        refine wpS_bind (wp_ltAt hO hB' h0 hk (by lia) ?_)
        cases hs1 : κ.blt (KK κ (arrOf st'') (lo + k)) (KK κ (arrOf st'') (lo + (l + r) / 2))
        case true =>
          simp only [if_true]
          refine wpS_pure ⟨rfl, l, (l + r) / 2, rfl, by lia, by lia, by lia, blw, fun i h1 h2 => ?_⟩
          exact KeyOrd.klt_of_klt_of_kle hs1 (hs' _ _ (by lia) (by lia) (by lia))
        case false =>
          simp only [Bool.false_eq_true, if_false]
          refine wpS_pure ⟨rfl, (l + r) / 2 + 1, r, rfl, by lia, by lia, by lia, fun i h1 => ?_, abv⟩
          exact KeyOrd.kle_trans (hs' (lo + i) (lo + (l + r) / 2) (by lia) (by lia) (by lia)) (show κ.kle _ _ from hs1)
    case d =>
      rintro c st'' ⟨rfl, l, r, rfl, le3, blw, abv⟩
      change wpS _ _ _ _ (do moveDown' (lo + k) (lo + l); pure (ForInStep.yield (none, ()))) _ _
      rw [moveDown'_eq]
      have hks : lo + k < (arrOf st'').size := by rw [hB'.size]; exact hk
      have blw' : ∀ i, lo ≤ i → i < lo + l → κ.kle (KK κ (arrOf st'') i) (KK κ (arrOf st'') (lo + k)) := fun i h1 h2 => by
        have := blw (i - lo) (by lia)
        rwa [show lo + (i - lo) = i by lia] at this
      have abv' : ∀ i, lo + l ≤ i → i < lo + k → κ.klt (KK κ (arrOf st'') (lo + k)) (KK κ (arrOf st'') i) := fun i h1 h2 => by
        have := abv (i - lo) (by lia) (by lia)
        rwa [show lo + (i - lo) = i by lia] at this
      refine wpS_bind (wpS_modify (wpS_pure ⟨rfl, hB'.setArr (bubble_perm _ _ _), hp, fun j hj => ?_, ?_⟩))
      · refine Eq.trans ?_ (hkk j hj)
        change KK κ (bubble (arrOf st'') (lo + k) (lo + k - (lo + l))) j = _
        rw [KK_bubble hks (by lia), if_neg (by lia), if_neg (by lia)]
      · rw [show min (k + 1) n = k + 1 by lia]
        intro p q hp1 hpq hq
        change κ.kle (KK κ (bubble (arrOf st'') (lo + k) (lo + k - (lo + l))) p) (KK κ (bubble (arrOf st'') (lo + k) (lo + k - (lo + l))) q)
        rw [KK_bubble hks (by lia), KK_bubble hks (by lia), show lo + k - (lo + k - (lo + l)) = lo + l by lia]
        repeat' split
        all_goals first
          | (exfalso; lia)
          | exact KeyOrd.kle_refl _
          | exact blw' _ (by lia) (by lia)
          | exact KeyOrd.kle_of_klt (abv' _ (by lia) (by lia))
          | exact hs' _ _ (by lia) (by lia) (by lia)
end
end TS

set_option autoImplicit false
set_option maxHeartbeats 4000000
set_option linter.all false
namespace TS
open PySem PyProof.Rows
section
variable {prog : Program} {w : World} {A : Around} {E : Value → Shared → Prop} {s : Shared} {a₀ : Array Keyed} {κ : KeyKind} {kd : SortKind}
theorem wp_rule {tag : String} {Q : Unit → SortSt → Prop} {st : SortSt} (h : Q () st) : wpS (model prog w) A E s (liftM (rule tag) : StateT SortSt Sem Unit) Q st :=
  wpS_lift (wpAny_rule ⟨rfl, h⟩)
/-- one more item behind a rising stretch -/
theorem SrtR.more {xs : Array Keyed} {lo n : Nat} (h : SrtR κ xs lo (lo + n)) (hn : 1 ≤ n) (e : κ.kle (KK κ xs (lo + n - 1)) (KK κ xs (lo + n))) : SrtR κ xs lo (lo + (n + 1)) := fun p q h1 h2 h3 => by
  by_cases hq : q < lo + n
  · exact h p q h1 h2 hq
  · have : q = lo + n := by lia
    subst this
    by_cases hp : p = lo + n
    · subst hp; exact κ.irrefl _
    · exact KeyOrd.kle_trans (h p (lo + n - 1) h1 (by lia) (by lia)) e
theorem DscR.more {xs : Array Keyed} {lo n : Nat} (h : DscR κ xs lo (lo + n)) (hn : 1 ≤ n) (e : κ.kle (KK κ xs (lo + n)) (KK κ xs (lo + n - 1))) : DscR κ xs lo (lo + (n + 1)) := fun p q h1 h2 h3 => by
  by_cases hq : q < lo + n
  · exact h p q h1 h2 hq
  · have : q = lo + n := by lia
    subst this
    by_cases hp : p = lo + n
    · subst hp; exact κ.irrefl _
    · exact KeyOrd.kle_trans e (h p (lo + n - 1) h1 (by lia) (by lia))
theorem SrtR.one {xs : Array Keyed} {lo : Nat} : SrtR κ xs lo (lo + 1) := fun p q h1 h2 h3 => by
  have : p = q := by lia
  subst this; exact κ.irrefl _
/-- a stretch is reversed -/
theorem dsc_rev {xs : Array Keyed} {lo n : Nat} (hn : lo + n ≤ xs.size) (h : DscR κ xs lo (lo + n)) : SrtR κ (mirror xs lo (lo + n) ((lo + n - lo) / 2)) lo (lo + n) := fun p q h1 h2 h3 => by
  rw [KK_mirror hn, KK_mirror hn, if_pos ⟨by lia, by lia⟩, if_pos ⟨by lia, by lia⟩]
  exact h _ _ (by lia) (by lia) (by lia)
theorem srt_rev {xs : Array Keyed} {lo n : Nat} (hn : lo + n ≤ xs.size) (h : SrtR κ xs lo (lo + n)) : DscR κ (mirror xs lo (lo + n) ((lo + n - lo) / 2)) lo (lo + n) := fun p q h1 h2 h3 => by
  rw [KK_mirror hn, KK_mirror hn, if_pos ⟨by lia, by lia⟩, if_pos ⟨by lia, by lia⟩]
  exact h _ _ (by lia) (by lia) (by lia)
theorem pre_rev {xs : Array Keyed} {lo i j k : Nat} (hn : j ≤ xs.size) (hi : lo ≤ i) (hk : k < lo) : KK κ (mirror xs i j ((j - i) / 2)) k = KK κ xs k := by
  rw [KK_mirror hn, if_neg (by lia)]
abbrev Keeps (κ : KeyKind) (lo : Nat) (st st' : SortSt) : Prop := pendingOf st' = pendingOf st ∧ ∀ k, k < lo → KK κ (arrOf st') k = KK κ (arrOf st) k
theorem Keeps.rev {lo i j : Nat} {st st' : SortSt} (h : Keeps κ lo st st') (hn : j ≤ (arrOf st').size) (hi : lo ≤ i) : Keeps κ lo st (setArr st' (mirror (arrOf st') i j ((j - i) / 2))) :=
  ⟨h.1, fun k hk => (pre_rev hn hi hk).trans (h.2 k hk)⟩
theorem conv_ {α : Type} {m m' : StateT SortSt Sem α} {Q : α → SortSt → Prop} {st : SortSt} (h : wpS (model prog w) A E s m Q st) (e : m = m') : wpS (model prog w) A E s m' Q st := e ▸ h
/-- the first stretch behind lo -/
theorem wp_count {st : SortSt} {lo nrem : Nat} {Q : Option Nat → SortSt → Prop} (hO : LtOk prog w A E s κ kd) (h0 : KeysOf κ a₀) (hn : lo + nrem ≤ a₀.size) (h1 : 1 ≤ nrem) (hB : SB kd a₀ st)
    (h : ∀ n st', SB kd a₀ st' → Keeps κ lo st st' → 1 ≤ n → n ≤ nrem → SrtR κ (arrOf st') lo (lo + n) → Q (some n) st') : wpS (model prog w) A E s (countRun' lo nrem) Q st := by
  rw [countRun'_eq]
  -- the rising loop, from anywhere
  have asc : ∀ (m : Nat) (st1 : SortSt) (Q1 : Option (Option Nat) × Nat → SortSt → Prop), SB kd a₀ st1 → 1 ≤ m → m ≤ nrem → SrtR κ (arrOf st1) lo (lo + m) →
      (∀ n, m ≤ n → n ≤ nrem → SrtR κ (arrOf st1) lo (lo + n) → (n = nrem ∨ κ.klt (KK κ (arrOf st1) (lo + n)) (KK κ (arrOf st1) (lo + n - 1))) → Q1 (none, n) st1) →
      wpS (model prog w) A E s (forIn [m:nrem] ((none, m) : Option (Option Nat) × Nat) fun _ r => do
        let __do_lift ← ltAt' (lo + r.snd) (lo + r.snd - 1)
        match __do_lift with
        | some smaller => if smaller = true then pure (ForInStep.done (none, r.snd)) else pure (ForInStep.yield (none, r.snd + 1))
        | _ => pure (ForInStep.done (some none, r.snd))) Q1 st1 := by
    intro m st1 Q1 hB1 hm hm2 hs hq
    refine wpS_forRange (I := fun x c st' => st' = st1 ∧ c = (none, x) ∧ SrtR κ (arrOf st1) lo (lo + x)) ?_ ?_ ⟨rfl, rfl, hs⟩
    · rintro x c st' hx1 hx2 ⟨rfl, rfl, hs'⟩
      dsimp only
      refine wpS_bind (wp_ltAt hO hB1 h0 (by lia) (by lia) ?_)
      cases e : κ.blt (KK κ (arrOf st') (lo + x)) (KK κ (arrOf st') (lo + x - 1)) with
      | true => exact wpS_pure (hq x hx1 (by lia) hs' (.inr e))
      | false => exact wpS_pure ⟨rfl, rfl, hs'.more (by lia) e⟩
    · rintro c st' ⟨rfl, rfl, hs'⟩
      rw [show max m nrem = nrem by lia] at hs' ⊢
      exact hq nrem hm2 (Nat.le_refl _) hs' (.inl rfl)
  refine wpS_bind (asc 1 st _ hB (Nat.le_refl _) h1 SrtR.one fun n n1 n2 hs hd => ?_)
  dsimp only
  by_cases hz : n = nrem
  · rw [if_pos (by simpa using hz)]
    exact wpS_pure (h n st hB ⟨rfl, fun _ _ => rfl⟩ n1 n2 hs)
  rw [if_neg (by simpa using hz)]
  have hd : κ.klt (KK κ (arrOf st) (lo + n)) (KK κ (arrOf st) (lo + n - 1)) := hd.resolve_left hz
  have fin : ∀ (m : Nat) (st1 : SortSt), SB kd a₀ st1 → Keeps κ lo st st1 → 1 ≤ m → m ≤ nrem → DscR κ (arrOf st1) lo (lo + m) →
      wpS (model prog w) A E s (do
        reverseSlice' lo (lo + m)
        let r ← forIn [m:nrem] ((none, m) : Option (Option Nat) × Nat) fun _ r => do
          let v ← ltAt' (lo + r.snd) (lo + r.snd - 1)
          match v with
          | some smaller => if smaller = true then pure (ForInStep.done (none, r.snd)) else pure (ForInStep.yield (none, r.snd + 1))
          | _ => pure (ForInStep.done (some none, r.snd))
        match r.fst with
        | some r => pure r
        | none => pure (some r.snd)) Q st1 := by
    intro m st1 hB1 hK m1 m2 hds
    have hz1 : lo + m ≤ (arrOf st1).size := by rw [hB1.size]; lia
    refine wpS_bind (wp_rev (wpS_bind (asc m _ _ (hB1.setArr (mirror_perm _ _ _ _)) m1 m2 (dsc_rev hz1 hds) fun k k1 k2 hk _ => wpS_pure (h k _ (hB1.setArr (mirror_perm _ _ _ _)) (hK.rev hz1 (Nat.le_refl _)) (by lia) k2 hk))))
  have rest : ∀ st1 : SortSt, SB kd a₀ st1 → Keeps κ lo st st1 → DscR κ (arrOf st1) lo (lo + (n + 1)) →
      wpS (model prog w) A E s (do
        let _ ← (liftM (rule "list.sort.descending-run") : StateT SortSt Sem Unit)
        let r ← forIn [n + 1:nrem] ((none, n + 1, 0) : Option (Option Nat) × Nat × Nat) fun _ r => do
          let v ← ltAt' (lo + r.snd.fst) (lo + r.snd.fst - 1)
          match v with
          | some smaller =>
            if smaller = true then
              if r.snd.snd > 0 then do
                reverseSlice' (lo + r.snd.fst - (r.snd.snd + 1)) (lo + r.snd.fst)
                pure (ForInStep.yield (none, r.snd.fst + 1, 0))
              else pure (ForInStep.yield (none, r.snd.fst + 1, 0))
            else do
              let v ← ltAt' (lo + r.snd.fst - 1) (lo + r.snd.fst)
              match v with
              | some larger => if larger = true then pure (ForInStep.done (none, r.snd.fst, r.snd.snd)) else pure (ForInStep.yield (none, r.snd.fst + 1, r.snd.snd + 1))
              | _ => pure (ForInStep.done (some none, r.snd.fst, r.snd.snd))
          | _ => pure (ForInStep.done (some none, r.snd.fst, r.snd.snd))
        match r.fst with
        | some r => pure r
        | none =>
          if r.snd.snd > 0 then do
            reverseSlice' (lo + r.snd.fst - (r.snd.snd + 1)) (lo + r.snd.fst)
            reverseSlice' lo (lo + r.snd.fst)
            let r ← forIn [r.snd.fst:nrem] ((none, r.snd.fst) : Option (Option Nat) × Nat) fun _ r => do
              let v ← ltAt' (lo + r.snd) (lo + r.snd - 1)
              match v with
              | some smaller => if smaller = true then pure (ForInStep.done (none, r.snd)) else pure (ForInStep.yield (none, r.snd + 1))
              | _ => pure (ForInStep.done (some none, r.snd))
            match r.fst with
            | some r => pure r
            | none => pure (some r.snd)
          else do
            reverseSlice' lo (lo + r.snd.fst)
            let r ← forIn [r.snd.fst:nrem] ((none, r.snd.fst) : Option (Option Nat) × Nat) fun _ r => do
              let v ← ltAt' (lo + r.snd) (lo + r.snd - 1)
              match v with
              | some smaller => if smaller = true then pure (ForInStep.done (none, r.snd)) else pure (ForInStep.yield (none, r.snd + 1))
              | _ => pure (ForInStep.done (some none, r.snd))
            match r.fst with
            | some r => pure r
            | none => pure (some r.snd)) Q st1 := by
    intro st1 hB1 hK1 hd1
    -- equal ones at the end of a falling stretch may be turned about
    have same : ∀ (st2 : SortSt) (m q : Nat), lo + m ≤ (arrOf st2).size → q + 1 ≤ m → (∀ i, lo + m - (q + 1) ≤ i → i < lo + m → KK κ (arrOf st2) i = KK κ (arrOf st2) (lo + m - 1)) → ∀ k,
        KK κ (mirror (arrOf st2) (lo + m - (q + 1)) (lo + m) ((lo + m - (lo + m - (q + 1))) / 2)) k = KK κ (arrOf st2) k := fun st2 m q a1 a2 a3 k => KK_mirror_equal a1 a3 k
    refine wpS_bind (wp_rule (wpS_bind (wpS_mono (wpS_forRange (I := fun x c st2 => ∃ q, c = (none, x, q) ∧ SB kd a₀ st2 ∧ Keeps κ lo st st2 ∧ DscR κ (arrOf st2) lo (lo + x) ∧ q + 1 ≤ x ∧
        (∀ i, lo + x - (q + 1) ≤ i → i < lo + x → KK κ (arrOf st2) i = KK κ (arrOf st2) (lo + x - 1)))
      (Q := fun c st2 => ∃ x q, n + 1 ≤ x ∧ x ≤ nrem ∧ c = (none, x, q) ∧ SB kd a₀ st2 ∧ Keeps κ lo st st2 ∧ DscR κ (arrOf st2) lo (lo + x) ∧ q + 1 ≤ x ∧
        (∀ i, lo + x - (q + 1) ≤ i → i < lo + x → KK κ (arrOf st2) i = KK κ (arrOf st2) (lo + x - 1))) ?turn ?done ⟨0, rfl, hB1, hK1, hd1, by lia, fun i i1 i2 => by congr 1; lia⟩) ?next)))
    case done =>
      rintro c st2 ⟨q, rfl, b1, b2, b3, b4, b5⟩
      rw [show max (n + 1) nrem = nrem by lia] at b3 b4 b5 ⊢
      exact ⟨nrem, q, by lia, Nat.le_refl _, rfl, b1, b2, b3, b4, b5⟩
    case turn =>
      rintro x c st2 x1 x2 ⟨q, rfl, b1, b2, b3, b4, b5⟩
      dsimp only
      have z1 : lo + x ≤ (arrOf st2).size := by rw [b1.size]; lia
      refine wpS_bind (wp_ltAt hO b1 h0 (by lia) (by lia) ?_)
      cases e : κ.blt (KK κ (arrOf st2) (lo + x)) (KK κ (arrOf st2) (lo + x - 1)) with
      | true =>
        dsimp only
        rw [if_pos rfl]
        by_cases hq : q > 0
        · rw [if_pos hq]
          have hsame := same st2 x q z1 b4 b5
          refine wpS_bind (wp_rev (wpS_pure ⟨0, rfl, b1.setArr (mirror_perm _ _ _ _), b2.rev z1 (by lia), ?_, by lia, fun i i1 i2 => by congr 1; lia⟩))
          intro p r r1 r2 r3
          refine Eq.subst (motive := fun z => κ.kle z _) (hsame r).symm (Eq.subst (motive := fun z => κ.kle _ z) (hsame p).symm ?_)
          exact b3.more (by lia) (KeyOrd.kle_of_klt e) p r r1 r2 r3
        · rw [if_neg hq]
          exact wpS_pure ⟨0, rfl, b1, b2, b3.more (by lia) (KeyOrd.kle_of_klt e), by lia, fun i i1 i2 => by congr 1; lia⟩
      | false =>
        dsimp only
        rw [if_neg (by decide)]
        refine wpS_bind (wp_ltAt hO b1 h0 (by lia) (by lia) ?_)
        cases e2 : κ.blt (KK κ (arrOf st2) (lo + x - 1)) (KK κ (arrOf st2) (lo + x)) with
        | true => exact wpS_pure ⟨x, q, x1, by lia, rfl, b1, b2, b3, b4, b5⟩
        | false =>
          have ee : KK κ (arrOf st2) (lo + x) = KK κ (arrOf st2) (lo + x - 1) := κ.total _ _ e e2
          refine wpS_pure ⟨q + 1, rfl, b1, b2, b3.more (by lia) e2, by lia, fun i i1 i2 => ?_⟩
          rw [show lo + (x + 1) - 1 = lo + x by lia]
          by_cases hi : i = lo + x
          · rw [hi]
          · rw [ee]; exact b5 i (by lia) (by lia)
    case next =>
      rintro c st2 ⟨x, q, x1, x2, rfl, b1, b2, b3, b4, b5⟩
      dsimp only
      have z1 : lo + x ≤ (arrOf st2).size := by rw [b1.size]; lia
      by_cases hq : q > 0
      · rw [if_pos hq]
        have hsame := same st2 x q z1 b4 b5
        refine wpS_bind (wp_rev (fin x _ (b1.setArr (mirror_perm _ _ _ _)) (b2.rev z1 (by lia)) (by lia) x2 ?_))
        intro p r r1 r2 r3
        refine Eq.subst (motive := fun z => κ.kle z _) (hsame r).symm (Eq.subst (motive := fun z => κ.kle _ z) (hsame p).symm ?_)
        exact b3 p r r1 r2 r3
      · rw [if_neg hq]
        exact fin x st2 b1 b2 (by lia) x2 b3
  by_cases hg : n > 1
  · rw [if_pos hg]
    have z1 : lo + n ≤ (arrOf st).size := by rw [hB.size]; lia
    refine wpS_bind (wp_ltAt hO hB h0 (by lia) (by lia) ?_)
    cases e : κ.blt (KK κ (arrOf st) lo) (KK κ (arrOf st) (lo + n - 1)) with
    | true => exact wpS_pure (h n st hB ⟨rfl, fun _ _ => rfl⟩ n1 n2 hs)
    | false =>
      dsimp only
      rw [if_neg (by decide)]
      refine wpS_bind (wp_rev (conv_ (rest _ (hB.setArr (mirror_perm _ _ _ _)) (Keeps.rev ⟨rfl, fun _ _ => rfl⟩ z1 (Nat.le_refl _)) ?_) (by
        congr 1
        funext _u
        congr 1
        funext r
        obtain ⟨a, b, c⟩ := r
        cases a with
        | some a => rfl
        | none =>
          dsimp only
          split
          · congr 1
            funext _v
            congr 1
            funext _v
            congr 1
            funext r
            obtain ⟨a, b⟩ := r
            cases a <;> rfl
          · congr 1
            funext _v
            congr 1
            funext r
            obtain ⟨a, b⟩ := r
            cases a <;> rfl)))
      refine (srt_rev z1 hs).more (by lia) ?_
      change κ.kle (KK κ (mirror (arrOf st) lo (lo + n) ((lo + n - lo) / 2)) (lo + n)) (KK κ (mirror (arrOf st) lo (lo + n) ((lo + n - lo) / 2)) (lo + n - 1))
      rw [KK_mirror z1, KK_mirror z1, if_neg (by lia), if_pos ⟨by lia, by lia⟩, show lo + (lo + n) - 1 - (lo + n - 1) = lo by lia]
      -- all of the stretch are alike: lo is not below the last one
      exact KeyOrd.kle_trans (KeyOrd.kle_of_klt hd) e
  · rw [if_neg hg]
    have en : n = 1 := by lia
    subst en
    refine conv_ (rest st hB ⟨rfl, fun _ _ => rfl⟩ ?_) (by
        congr 1
        funext _u
        congr 1
        funext r
        obtain ⟨a, b, c⟩ := r
        cases a with
        | some a => rfl
        | none =>
          dsimp only
          split
          · congr 1
            funext _v
            congr 1
            funext _v
            congr 1
            funext r
            obtain ⟨a, b⟩ := r
            cases a <;> rfl
          · congr 1
            funext _v
            congr 1
            funext r
            obtain ⟨a, b⟩ := r
            cases a <;> rfl)
    refine DscR.more (fun p q p1 p2 p3 => ?_) (by lia) (KeyOrd.kle_of_klt hd)
    have : p = q := by lia
    subst this; exact κ.irrefl _
end
end TS

set_option autoImplicit false
set_option maxHeartbeats 4000000
set_option linter.all false
namespace TS
open PySem PyProof.Rows
def gallop' : Bool → Keyed → Array Keyed → Nat → Nat → Nat → StateT SortSt Sem (Option Nat) := sortPriv% PySem.Builtin.gallop
section
variable {prog : Program} {w : World} {A : Around} {E : Value → Shared → Prop} {s : Shared} {a₀ : Array Keyed} {κ : KeyKind} {kd : SortKind}
theorem wp_elem {arr : Array Keyed} {i : Nat} {x : Keyed} {Q : Keyed → SortSt → Prop} {st : SortSt} (h : arr[i]? = some x) (q : Q x st) : wpS (model prog w) A E s (elem' arr i) Q st := by
  rw [elem'_eq, h]
  exact wpS_pure q
/-- is item i ahead of the place looked for -/
def bey (κ : KeyKind) (left : Bool) (k : κ.α) (arr : Array Keyed) (base i : Nat) : Bool := if left then κ.blt (KK κ arr (base + i)) k else !κ.blt k (KK κ arr (base + i))
/-- the last search, by halves -/
theorem gal_bin {P : Nat → Bool} {n : Nat} {st : SortSt} {Q : Option Nat → SortSt → Prop} {f : Nat → Option (Option Nat) × Nat × Nat → StateT SortSt Sem (ForInStep (Option (Option Nat) × Nat × Nat))} {K : Option (Option Nat) × Nat × Nat → StateT SortSt Sem (Option Nat)}
    (f1 : ∀ x l h, l ≥ h → f x (none, l, h) = pure (ForInStep.done (none, l, h)))
    (f2 : ∀ x l h, ¬ l ≥ h → ∃ (m : StateT SortSt Sem (Option Bool)) (K1 : Option Bool → StateT SortSt Sem (ForInStep (Option (Option Nat) × Nat × Nat))), f x (none, l, h) = m >>= K1 ∧
      (h ≤ n → ∀ Q : Option Bool → SortSt → Prop, Q (some (P (l + (h - l) / 2))) st → wpS (model prog w) A E s m Q st) ∧ K1 (some true) = pure (ForInStep.yield (none, l + (h - l) / 2 + 1, h)) ∧ K1 (some false) = pure (ForInStep.yield (none, l, l + (h - l) / 2)))
    (hK : ∀ l h, K (none, l, h) = pure (some h)) (mono : ∀ i j, i ≤ j → j < n → P j = true → P i = true)
    (hq : ∀ r, r ≤ n → (∀ i, i < r → P i = true) → (∀ i, r ≤ i → i < n → P i = false) → Q (some r) st) {l h : Nat} (hl : l ≤ h) (hh : h ≤ n) (p1 : ∀ i, i < l → P i = true) (p2 : ∀ i, h ≤ i → i < n → P i = false) :
    wpS (model prog w) A E s (forIn [0:n] (none, l, h) f >>= K) Q st := by
  refine wpS_bind (wpS_mono (wpS_forRange (I := fun x c st' => st' = st ∧ ∃ l h, c = (none, l, h) ∧ l ≤ h ∧ h ≤ n ∧ h - l ≤ n - x ∧ (∀ i, i < l → P i = true) ∧ (∀ i, h ≤ i → i < n → P i = false))
    (Q := fun c st' => st' = st ∧ ∃ l h, c = (none, l, h) ∧ l = h ∧ h ≤ n ∧ (∀ i, i < l → P i = true) ∧ (∀ i, h ≤ i → i < n → P i = false)) ?_ ?_ ⟨rfl, l, h, rfl, hl, hh, by lia, p1, p2⟩) ?_)
  · rintro x c st' _ hx ⟨rfl, l, h, rfl, a1, a2, a3, a4, a5⟩
    by_cases hs : l ≥ h
    · rw [f1 x l h hs]
      exact wpS_pure ⟨rfl, l, h, rfl, by lia, a2, a4, a5⟩
    · obtain ⟨m, K1, e, hm, k1, k2⟩ := f2 x l h hs
      rw [e]
      refine wpS_bind (hm a2 _ ?_)
      cases z : P (l + (h - l) / 2) with
      | true =>
        rw [k1]
        exact wpS_pure ⟨rfl, _, _, rfl, by lia, a2, by lia, fun i hi => mono i _ (by lia) (by lia) z, a5⟩
      | false =>
        rw [k2]
        refine wpS_pure ⟨rfl, _, _, rfl, by lia, by lia, by lia, a4, fun i i1 i2 => ?_⟩
        cases z2 : P i with
        | false => rfl
        | true => rw [mono _ i i1 i2 z2] at z; cases z
  · rintro c st' ⟨rfl, l, h, rfl, a1, a2, a3, a4, a5⟩
    exact ⟨rfl, l, h, rfl, by lia, a2, a4, a5⟩
  · rintro c st' ⟨rfl, l, h, rfl, rfl, a2, a4, a5⟩
    rw [hK]
    exact wpS_pure (hq l a2 a4 a5)
theorem wp_gal {st : SortSt} {left : Bool} {key : Keyed} {k : κ.α} {arr : Array Keyed} {base n hint : Nat} {Q : Option Nat → SortSt → Prop} (hO : LtOk prog w A E s κ kd) (hk : kindOf st = kd) (h0 : KeysOf κ arr) (kk : κ.keyOf key.1 = some k) (hn : base + n ≤ arr.size) (hh : hint < n)
    (mono : SrtR κ arr base (base + n))
    (hq : ∀ r, r ≤ n → (∀ i, i < r → bey κ left k arr base i = true) → (∀ i, r ≤ i → i < n → bey κ left k arr base i = false) → Q (some r) st) : wpS (model prog w) A E s (gallop' left key arr base n hint) Q st := by
  have mono : ∀ i j, i ≤ j → j < n → bey κ left k arr base j = true → bey κ left k arr base i = true := fun i j i1 i2 e => by
    have hs := mono (base + i) (base + j) (by lia) (by lia) (by lia)
    unfold bey at e ⊢
    cases left with
    | true => exact KeyOrd.klt_of_kle_of_klt hs e
    | false =>
      simp only [Bool.false_eq_true, if_false, Bool.not_eq_true'] at e ⊢
      exact KeyOrd.kle_trans (O := κ.toKeyOrd) hs e
  have ask : ∀ i, i < n → ∀ Q : Option Bool → SortSt → Prop, Q (some (bey κ left k arr base i)) st → wpS (model prog w) A E s (do
      let x ← elem' arr (base + i)
      if left then lt' x key else return (← lt' key x).map (!·)) Q st := fun i hi Q q => by
    obtain ⟨x, e1, e2, _⟩ := key_at h0 (i := base + i) (by lia)
    refine wpS_bind (wp_elem e1 ?_)
    unfold bey at q
    cases left with
    | true => exact hO x key _ _ st Q e2 kk hk q
    | false => exact wpS_bind (hO key x _ _ st _ kk e2 hk (wpS_pure q))
  unfold gallop'
  refine wpS_bind (ask hint hh _ ?_)
  cases z : bey κ left k arr base hint with
  | true =>
    dsimp only
    rw [if_pos rfl]
    refine wpS_bind (wpS_mono (wpS_forRange (I := fun x c st' => st' = st ∧ ∃ a b, c = (none, a, b) ∧ a < b ∧ x + 1 ≤ b ∧ a < n - hint ∧ bey κ left k arr base (hint + a) = true)
      (Q := fun c st' => st' = st ∧ ∃ a b, c = (none, a, b) ∧ a < b ∧ a < n - hint ∧ bey κ left k arr base (hint + a) = true ∧ (b < n - hint → bey κ left k arr base (hint + b) = false)) ?_ ?_ ⟨rfl, 0, 1, rfl, by lia, by lia, by lia, z⟩) ?_)
    · rintro x c st' _ hx ⟨rfl, a, b, rfl, a1, a2, a3, a4⟩
      dsimp only
      by_cases hs : b ≥ n - hint
      · rw [if_pos hs]
        exact wpS_pure ⟨rfl, a, b, rfl, a1, a3, a4, fun q => by lia⟩
      · rw [if_neg hs]
        refine wpS_bind (ask (hint + b) (by lia) _ ?_)
        cases z2 : bey κ left k arr base (hint + b) with
        | true => exact wpS_pure ⟨rfl, b, 2 * b + 1, rfl, by lia, by lia, by lia, z2⟩
        | false => exact wpS_pure ⟨rfl, a, b, rfl, a1, a3, a4, fun _ => z2⟩
    · rintro c st' ⟨rfl, a, b, rfl, a1, a2, a3, a4⟩
      exact ⟨rfl, a, b, rfl, a1, a3, a4, fun q => by lia⟩
    · rintro c st' ⟨rfl, a, b, rfl, a1, a3, a4, a5⟩
      dsimp only
      refine gal_bin (P := bey κ left k arr base) (n := n) (fun x l h hs => if_pos hs) (fun x l h hs => ⟨_, _, if_neg hs, fun hx Q hQ => ask _ (by lia) Q hQ, rfl, rfl⟩) (fun l h => rfl) mono hq (by lia) (by lia) (fun i hi => mono i (hint + a) (by lia) (by lia) a4) fun i i1 i2 => ?_
      cases z2 : bey κ left k arr base i with
      | false => rfl
      | true =>
        by_cases hb : b < n - hint
        · have := mono (hint + b) i (by lia) i2 z2
          rw [a5 hb] at this
          cases this
        · lia
  | false =>
    dsimp only
    rw [if_neg (by decide)]
    refine wpS_bind (wpS_mono (wpS_forRange (I := fun x c st' => st' = st ∧ ∃ a b, c = (none, a, b) ∧ a < b ∧ x + 1 ≤ b ∧ a ≤ hint ∧ bey κ left k arr base (hint - a) = false)
      (Q := fun c st' => st' = st ∧ ∃ a b, c = (none, a, b) ∧ a < b ∧ a ≤ hint ∧ bey κ left k arr base (hint - a) = false ∧ (b ≤ hint → bey κ left k arr base (hint - b) = true)) ?_ ?_ ⟨rfl, 0, 1, rfl, by lia, by lia, by lia, z⟩) ?_)
    · rintro x c st' _ hx ⟨rfl, a, b, rfl, a1, a2, a3, a4⟩
      dsimp only
      by_cases hs : b ≥ hint + 1
      · rw [if_pos hs]
        exact wpS_pure ⟨rfl, a, b, rfl, a1, a3, a4, fun q => by lia⟩
      · rw [if_neg hs]
        refine wpS_bind (ask (hint - b) (by lia) _ ?_)
        cases z2 : bey κ left k arr base (hint - b) with
        | true => exact wpS_pure ⟨rfl, a, b, rfl, a1, a3, a4, fun _ => z2⟩
        | false => exact wpS_pure ⟨rfl, b, 2 * b + 1, rfl, by lia, by lia, by lia, z2⟩
    · rintro c st' ⟨rfl, a, b, rfl, a1, a2, a3, a4⟩
      exact ⟨rfl, a, b, rfl, a1, a3, a4, fun q => by lia⟩
    · rintro c st' ⟨rfl, a, b, rfl, a1, a3, a4, a5⟩
      dsimp only
      refine gal_bin (P := bey κ left k arr base) (n := n) (fun x l h hs => if_pos hs) (fun x l h hs => ⟨_, _, if_neg hs, fun hx Q hQ => ask _ (by lia) Q hQ, rfl, rfl⟩) (fun l h => rfl) mono hq (by lia) (by lia) (fun i hi => ?_) fun i i1 i2 => ?_
      · exact mono i (hint - b) (by lia) (by lia) (a5 (by lia))
      · cases z2 : bey κ left k arr base i with
        | false => rfl
        | true =>
          have := mono (hint - a) i (by lia) i2 z2
          rw [a4] at this
          cases this
end
end TS

set_option autoImplicit false
set_option maxHeartbeats 4000000
set_option linter.all false
namespace TS
open PySem PyProof.Rows
section
variable {κ : KeyKind}
abbrev lek (κ : KeyKind) (x y : Keyed) : Prop := κ.kle (kx κ x) (kx κ y)
def SL (κ : KeyKind) (l : List Keyed) : Prop := l.Pairwise (lek κ)
theorem sl_app {l m : List Keyed} : SL κ (l ++ m) ↔ SL κ l ∧ SL κ m ∧ ∀ x ∈ l, ∀ y ∈ m, lek κ x y := List.pairwise_append
/-- merged from the front: out, what is left of either -/
structure ML (κ : KeyKind) (all out as bs : List Keyed) : Prop where
  perm : (out ++ as ++ bs).Perm all
  sa : SL κ (out ++ as)
  sb : SL κ (out ++ bs)
theorem ML.pushB {all out as bs : List Keyed} {y : Keyed} (h : ML κ all out as (y :: bs)) (hy : ∀ x ∈ as, lek κ y x) : ML κ all (out ++ [y]) as bs := by
  obtain ⟨a1, a2, a3⟩ := sl_app.mp h.sa
  obtain ⟨b1, b2, b3⟩ := sl_app.mp h.sb
  refine ⟨List.Perm.trans ?_ h.perm, sl_app.mpr ⟨sl_app.mpr ⟨a1, List.pairwise_singleton _ _, fun x hx z hz => b3 x hx z (by simp at hz; simp [hz])⟩, a2, fun x hx z hz => ?_⟩, by rw [List.append_assoc]; exact h.sb⟩
  · rw [List.append_assoc, List.append_assoc, List.append_assoc]
    refine List.Perm.append_left out ?_
    exact (List.perm_middle (l₁ := as) (l₂ := bs) (a := y)).symm
  · rcases List.mem_append.mp hx with hx | hx
    · exact a3 x hx z hz
    · have : x = y := by simpa using hx
      subst this; exact hy z hz
theorem ML.swap {all out as bs : List Keyed} (h : ML κ all out as bs) : ML κ all out bs as := by
  refine ⟨List.Perm.trans ?_ h.perm, h.sb, h.sa⟩
  rw [List.append_assoc, List.append_assoc]
  exact List.Perm.append_left out List.perm_append_comm
theorem ML.pushA {all out as bs : List Keyed} {y : Keyed} (h : ML κ all out (y :: as) bs) (hy : ∀ x ∈ bs, lek κ y x) : ML κ all (out ++ [y]) as bs := (h.swap.pushB hy).swap
theorem ML.extB {all : List Keyed} : ∀ {cs out as bs : List Keyed}, ML κ all out as (cs ++ bs) → (∀ y ∈ cs, ∀ x ∈ as, lek κ y x) → ML κ all (out ++ cs) as bs
  | [], out, as, bs, h, _ => by rw [List.append_nil]; exact h
  | c :: cs, out, as, bs, h, hy => by
    have := ML.extB (cs := cs) (h.pushB (fun x hx => hy c (by simp) x hx)) fun y y1 => hy y (by simp [y1])
    rwa [List.append_assoc, List.singleton_append] at this
theorem ML.extA {all cs out as bs : List Keyed} (h : ML κ all out (cs ++ as) bs) (hy : ∀ y ∈ cs, ∀ x ∈ bs, lek κ y x) : ML κ all (out ++ cs) as bs := (h.swap.extB hy).swap
/-- sorted, and the same things -/
def Dn (κ : KeyKind) (all r : List Keyed) : Prop := r.Perm all ∧ SL κ r
theorem ML.endB {all out as : List Keyed} (h : ML κ all out as []) : Dn κ all (out ++ as) := ⟨by simpa using h.perm, h.sa⟩
theorem ML.endA {all out bs : List Keyed} (h : ML κ all out [] bs) : Dn κ all (out ++ bs) := ⟨by simpa using h.perm, h.sb⟩
/-- what is left of the second one comes first -/
theorem ML.endS {all out as bs : List Keyed} (h : ML κ all out as bs) (hy : ∀ y ∈ bs, ∀ x ∈ as, lek κ y x) : Dn κ all (out ++ bs ++ as) := by
  obtain ⟨a1, a2, a3⟩ := sl_app.mp h.sa
  obtain ⟨b1, b2, b3⟩ := sl_app.mp h.sb
  refine ⟨h.swap.perm, sl_app.mpr ⟨h.sb, a2, fun x hx z hz => ?_⟩⟩
  rcases List.mem_append.mp hx with hx | hx
  · exact a3 x hx z hz
  · exact hy x hx z hz
/-- merged from the end -/
structure MH (κ : KeyKind) (all as bs out : List Keyed) : Prop where
  perm : (as ++ bs ++ out).Perm all
  sa : SL κ (as ++ out)
  sb : SL κ (bs ++ out)
theorem MH.swap {all out as bs : List Keyed} (h : MH κ all as bs out) : MH κ all bs as out :=
  ⟨List.Perm.trans (List.Perm.append_right out List.perm_append_comm) h.perm, h.sb, h.sa⟩
theorem MH.pushA {all out as bs : List Keyed} {x : Keyed} (h : MH κ all (as ++ [x]) bs out) (hx : ∀ y ∈ bs, lek κ y x) : MH κ all as bs (x :: out) := by
  obtain ⟨a1, a2, a3⟩ := sl_app.mp h.sa
  obtain ⟨b1, b2, b3⟩ := sl_app.mp h.sb
  refine ⟨List.Perm.trans ?_ h.perm, by have := h.sa; rwa [List.append_assoc, List.singleton_append] at this, sl_app.mpr ⟨b1, List.pairwise_cons.mpr ⟨fun z hz => a3 x (by simp) z hz, b2⟩, fun y hy z hz => ?_⟩⟩
  · rw [List.append_assoc, List.append_assoc, List.append_assoc, List.singleton_append]
    refine List.Perm.append_left as ?_
    exact (List.perm_middle (l₁ := bs) (l₂ := out) (a := x))
  · rcases List.mem_cons.mp hz with rfl | hz
    · exact hx y hy
    · exact b3 y hy z hz
theorem MH.pushB {all out as bs : List Keyed} {x : Keyed} (h : MH κ all as (bs ++ [x]) out) (hx : ∀ y ∈ as, lek κ y x) : MH κ all as bs (x :: out) := (h.swap.pushA hx).swap
theorem MH.extA {all : List Keyed} {bs : List Keyed} : ∀ {cs : List Keyed} {as out : List Keyed}, MH κ all (as ++ cs) bs out → (∀ x ∈ cs, ∀ y ∈ bs, lek κ y x) → MH κ all as bs (cs ++ out)
  | [], as, out, h, _ => by simpa using h
  | c :: cs, as, out, h, hx => by
    have h2 : MH κ all ((as ++ [c]) ++ cs) bs out := by rw [List.append_assoc, List.singleton_append]; exact h
    exact (MH.extA h2 fun x x1 => hx x (by simp [x1])).pushA fun y hy => hx c (by simp) y hy
theorem MH.extB {all as bs cs out : List Keyed} (h : MH κ all as (bs ++ cs) out) (hx : ∀ x ∈ cs, ∀ y ∈ as, lek κ y x) : MH κ all as bs (cs ++ out) := (h.swap.extA hx).swap
theorem MH.endA {all out bs : List Keyed} (h : MH κ all [] bs out) : Dn κ all (bs ++ out) := ⟨by simpa using h.perm, h.sb⟩
theorem MH.endB {all out as : List Keyed} (h : MH κ all as [] out) : Dn κ all (as ++ out) := ⟨by simpa using h.perm, h.sa⟩
theorem MH.endS {all out as bs : List Keyed} (h : MH κ all as bs out) (hy : ∀ y ∈ bs, ∀ x ∈ as, lek κ y x) : Dn κ all (bs ++ as ++ out) := by
  obtain ⟨a1, a2, a3⟩ := sl_app.mp h.sa
  obtain ⟨b1, b2, b3⟩ := sl_app.mp h.sb
  refine ⟨h.swap.perm, sl_app.mpr ⟨sl_app.mpr ⟨b1, a1, hy⟩, a2, fun x hx z hz => ?_⟩⟩
  rcases List.mem_append.mp hx with hx | hx
  · exact b3 x hx z hz
  · exact a3 x hx z hz
/-! ### by places of arrays -/
theorem drop_at {xs : Array Keyed} {i : Nat} {x : Keyed} (h : xs[i]? = some x) : xs.toList.drop i = x :: xs.toList.drop (i + 1) := by
  obtain ⟨h1, h2⟩ := Array.getElem?_eq_some_iff.mp h
  rw [List.drop_eq_getElem_cons (by simpa using h1)]
  simp [h2]
theorem take_at {xs : Array Keyed} {i : Nat} {x : Keyed} (h : xs[i]? = some x) : xs.toList.take (i + 1) = xs.toList.take i ++ [x] := by
  obtain ⟨h1, h2⟩ := Array.getElem?_eq_some_iff.mp h
  rw [List.take_succ_eq_append_getElem (by simpa using h1)]
  simp [h2]
theorem drop_cut {xs : Array Keyed} {i k : Nat} (h : i + k ≤ xs.size) : xs.toList.drop i = (xs.extract i (i + k)).toList ++ xs.toList.drop (i + k) := by
  rw [Array.toList_extract, List.extract_eq_drop_take, show i + k - i = k by lia]
  conv => lhs; rw [← List.take_append_drop k (xs.toList.drop i), List.drop_drop]
theorem take_cut {xs : Array Keyed} {i n : Nat} (h : i ≤ n) (hn : n ≤ xs.size) : xs.toList.take n = xs.toList.take i ++ (xs.extract i n).toList := by
  rw [Array.toList_extract, List.extract_eq_drop_take]
  conv => lhs; rw [← List.take_append_drop i (xs.toList.take n)]
  rw [List.take_take, Nat.min_eq_left h, List.drop_take]
theorem ext_drop {xs : Array Keyed} {i : Nat} : (xs.extract i xs.size).toList = xs.toList.drop i := by
  rw [Array.toList_extract, List.extract_eq_drop_take, ← Array.length_toList, ← List.length_drop, List.take_length]
theorem ext_take {xs : Array Keyed} {n : Nat} : (xs.extract 0 n).toList = xs.toList.take n := by
  rw [Array.toList_extract, List.extract_eq_drop_take]; simp
theorem mem_drop {xs : Array Keyed} {i : Nat} {x : Keyed} (h : x ∈ xs.toList.drop i) : ∃ j, i ≤ j ∧ j < xs.size ∧ KK κ xs j = kx κ x := by
  obtain ⟨j, hj, e⟩ := List.mem_iff_getElem.mp h
  rw [List.length_drop, Array.length_toList] at hj
  refine ⟨i + j, by lia, by lia, ?_⟩
  rw [List.getElem_drop] at e
  exact KK_at (by rw [Array.getElem?_eq_some_iff]; exact ⟨by lia, by simpa using e⟩)
theorem mem_ext {xs : Array Keyed} {i n : Nat} {x : Keyed} (hn : n ≤ xs.size) (h : x ∈ (xs.extract i n).toList) : ∃ j, i ≤ j ∧ j < n ∧ KK κ xs j = kx κ x := by
  rw [Array.toList_extract, List.extract_eq_drop_take] at h
  obtain ⟨j, hj, e⟩ := List.mem_iff_getElem.mp h
  rw [List.length_take, List.length_drop, Array.length_toList] at hj
  refine ⟨i + j, by lia, by lia, ?_⟩
  rw [List.getElem_take, List.getElem_drop] at e
  exact KK_at (by rw [Array.getElem?_eq_some_iff]; exact ⟨by lia, by simpa using e⟩)
theorem mem_take {xs : Array Keyed} {n : Nat} {x : Keyed} (hn : n ≤ xs.size) (h : x ∈ xs.toList.take n) : ∃ j, j < n ∧ KK κ xs j = kx κ x := by
  obtain ⟨j, hj, e⟩ := List.mem_iff_getElem.mp h
  rw [List.length_take, Array.length_toList] at hj
  refine ⟨j, by lia, ?_⟩
  rw [List.getElem_take] at e
  exact KK_at (by rw [Array.getElem?_eq_some_iff]; exact ⟨by lia, by simpa using e⟩)
theorem sl_of_srt {xs : Array Keyed} (h : SrtR κ xs 0 xs.size) : SL κ xs.toList := by
  refine List.pairwise_iff_getElem.mpr fun i j hi hj hij => ?_
  rw [Array.length_toList] at hi hj
  have := h i j (Nat.zero_le _) (by lia) hj
  rw [KK_at (x := xs[i]) (getElem?_pos xs i hi), KK_at (x := xs[j]) (getElem?_pos xs j hj)] at this
  simpa using this
end
end TS

set_option autoImplicit false
set_option maxHeartbeats 4000000
set_option linter.all false
namespace TS
open PySem PyProof.Rows
def mergeLo' : Array Keyed → Array Keyed → StateT SortSt Sem (Array Keyed) := sortPriv% PySem.Builtin.mergeLo
def mergeHi' : Array Keyed → Array Keyed → StateT SortSt Sem (Array Keyed) := sortPriv% PySem.Builtin.mergeHi
/-- but for the count of wins -/
def Sm (st st' : SortSt) : Prop := arrOf st' = arrOf st ∧ pendingOf st' = pendingOf st ∧ kindOf st' = kindOf st ∧ failedOf st' = failedOf st
theorem Sm.refl (st : SortSt) : Sm st st := ⟨rfl, rfl, rfl, rfl⟩
section
variable {κ : KeyKind} {a b out : Array Keyed} {all : List Keyed} {ia ib k : Nat}
abbrev MLa (κ : KeyKind) (a b : Array Keyed) (out : Array Keyed) (ia ib : Nat) : Prop := ML κ (a.toList ++ b.toList) out.toList (a.toList.drop ia) (b.toList.drop ib)
theorem MLa.dn (h : MLa κ a b out ia ib) (e : ib = b.size ∨ ia = a.size) : Dn κ (a.toList ++ b.toList) (out ++ a.extract ia a.size ++ b.extract ib b.size).toList := by
  rw [Array.toList_append, Array.toList_append, ext_drop, ext_drop]
  rcases e with rfl | rfl
  · have e1 : b.toList.drop b.size = [] := by simp
    rw [MLa, e1] at h
    rw [e1, List.append_nil]
    exact h.endB
  · have e1 : a.toList.drop a.size = [] := by simp
    rw [MLa, e1] at h
    rw [e1, List.append_nil]
    exact h.endA
theorem MLa.last (h : MLa κ a b out ia ib) (e : ia + 1 = a.size) (hl : ∀ j, j < b.size → κ.kle (KK κ b j) (KK κ a (a.size - 1))) : Dn κ (a.toList ++ b.toList) (out ++ b.extract ib b.size ++ a.extract ia a.size).toList := by
  rw [Array.toList_append, Array.toList_append, ext_drop, ext_drop]
  refine h.endS fun y hy x hx => ?_
  obtain ⟨j, j1, j2, j3⟩ := mem_drop (κ := κ) hy
  obtain ⟨i, i1, i2, i3⟩ := mem_drop (κ := κ) hx
  unfold lek
  rw [← j3, ← i3, show i = a.size - 1 by lia]
  exact hl j j2
theorem MLa.pB {y : Keyed} (h : MLa κ a b out ia ib) (sa : SrtR κ a 0 a.size) (e : b[ib]? = some y) (hl : κ.kle (KK κ b ib) (KK κ a ia)) : MLa κ a b (out.push y) ia (ib + 1) := by
  unfold MLa at h ⊢
  rw [drop_at e] at h
  rw [Array.toList_push]
  refine h.pushB fun x hx => ?_
  obtain ⟨i, i1, i2, i3⟩ := mem_drop (κ := κ) hx
  unfold lek
  rw [← i3, ← KK_at e]
  exact KeyOrd.kle_trans hl (sa ia i (Nat.zero_le _) i1 i2)
theorem MLa.pA {x : Keyed} (h : MLa κ a b out ia ib) (sb : SrtR κ b 0 b.size) (e : a[ia]? = some x) (hl : κ.kle (KK κ a ia) (KK κ b ib)) : MLa κ a b (out.push x) (ia + 1) ib := by
  unfold MLa at h ⊢
  rw [drop_at e] at h
  rw [Array.toList_push]
  refine h.pushA fun y hy => ?_
  obtain ⟨i, i1, i2, i3⟩ := mem_drop (κ := κ) hy
  unfold lek
  rw [← i3, ← KK_at e]
  exact KeyOrd.kle_trans hl (sb ib i (Nat.zero_le _) i1 i2)
theorem MLa.eA (h : MLa κ a b out ia ib) (sb : SrtR κ b 0 b.size) (hk : ia + k ≤ a.size) (hl : ∀ i, i < k → κ.kle (KK κ a (ia + i)) (KK κ b ib)) : MLa κ a b (out ++ a.extract ia (ia + k)) (ia + k) ib := by
  unfold MLa at h ⊢
  rw [drop_cut hk] at h
  rw [Array.toList_append]
  refine h.extA fun x hx y hy => ?_
  obtain ⟨i, i1, i2, i3⟩ := mem_ext (κ := κ) hk hx
  obtain ⟨j, j1, j2, j3⟩ := mem_drop (κ := κ) hy
  unfold lek
  rw [← i3, ← j3]
  have := hl (i - ia) (by lia)
  rw [show ia + (i - ia) = i by lia] at this
  exact KeyOrd.kle_trans this (sb ib j (Nat.zero_le _) j1 j2)
theorem MLa.eB (h : MLa κ a b out ia ib) (sa : SrtR κ a 0 a.size) (hk : ib + k ≤ b.size) (hl : ∀ i, i < k → κ.kle (KK κ b (ib + i)) (KK κ a ia)) : MLa κ a b (out ++ b.extract ib (ib + k)) ia (ib + k) := by
  unfold MLa at h ⊢
  rw [drop_cut hk] at h
  rw [Array.toList_append]
  refine h.extB fun y hy x hx => ?_
  obtain ⟨j, j1, j2, j3⟩ := mem_ext (κ := κ) hk hy
  obtain ⟨i, i1, i2, i3⟩ := mem_drop (κ := κ) hx
  unfold lek
  rw [← i3, ← j3]
  have := hl (j - ib) (by lia)
  rw [show ib + (j - ib) = j by lia] at this
  exact KeyOrd.kle_trans this (sa ia i (Nat.zero_le _) i1 i2)
end
section
variable {prog : Program} {w : World} {A : Around} {E : Value → Shared → Prop} {s : Shared} {κ : KeyKind} {kd : SortKind}
def setMin' : Nat → StateT SortSt Sem Unit := sortPriv% PySem.Builtin.setMinGallop
theorem wp_min {n : Nat} {st : SortSt} {Q : Unit → SortSt → Prop} (h : ∀ st', Sm st st' → Q () st') : wpS (model prog w) A E s (setMin' n) Q st :=
  wpS_modify (f := fun z => SortSt.mk' (kindOf z) (arrOf z) (pendingOf z) n (failedOf z)) (h _ ⟨rfl, rfl, rfl, rfl⟩)
theorem Sm.trans {a b c : SortSt} (h : Sm a b) (g : Sm b c) : Sm a c := ⟨g.1.trans h.1, g.2.1.trans h.2.1, g.2.2.1.trans h.2.2.1, g.2.2.2.trans h.2.2.2⟩
section
variable {β : Type} {R : β → SortSt → Prop} {st : SortSt} {K1 : Option Nat → StateT SortSt Sem β} {a b o : Array Keyed} {la lb : Nat}
theorem lo_one (hO : LtOk prog w A E s κ kd) (hk : kindOf st = kd) (ka : KeysOf κ a) (kb : KeysOf κ b) (sa : SrtR κ a 0 a.size) (sb : SrtR κ b 0 b.size) (m : MLa κ a b o la lb) (h1 : la + 1 < a.size) (h2 : lb < b.size)
    (d1 : ∀ k, k > 0 → la + k + 1 = a.size → MLa κ a b (o ++ a.extract la (la + k)) (la + k) lb → wpS (model prog w) A E s (K1 (some k)) R st)
    (d2 : ∀ k, k > 0 → la + k = a.size → MLa κ a b (o ++ a.extract la (la + k)) (la + k) lb → wpS (model prog w) A E s (K1 (some k)) R st)
    (d3 : ∀ k y, k > 0 → la + k + 1 < a.size → b[lb]? = some y → MLa κ a b ((o ++ a.extract la (la + k)).push y) (la + k) (lb + 1) → wpS (model prog w) A E s (K1 (some k)) R st)
    (d4 : ∀ y, b[lb]? = some y → MLa κ a b (o.push y) la (lb + 1) → wpS (model prog w) A E s (K1 (some 0)) R st) :
    wpS (model prog w) A E s (elem' b lb >>= fun y => gallop' false y a la (a.size - la) 0 >>= K1) R st := by
  obtain ⟨y, ey, ky, _⟩ := key_at kb h2
  refine wpS_bind (wp_elem ey (wpS_bind (wp_gal hO hk ka ky (by lia) (by lia) (fun p q p1 p2 p3 => sa p q (Nat.zero_le _) p2 (by lia)) fun k k1 k2 k3 => ?_)))
  have k2' : ∀ i, i < k → κ.kle (KK κ a (la + i)) (KK κ b lb) := fun i hi => by simpa [bey, KeyOrd.kle] using k2 i hi
  have k3' : k < a.size - la → κ.kle (KK κ b lb) (KK κ a (la + k)) := fun hi => by
    have := k3 k (Nat.le_refl _) hi
    exact KeyOrd.kle_of_klt (by simpa [bey, KeyOrd.klt] using this)
  by_cases c0 : k > 0
  · have m2 := m.eA (k := k) sb (by lia) k2'
    by_cases c1 : la + k + 1 = a.size
    · exact d1 k c0 c1 m2
    by_cases c2 : la + k = a.size
    · exact d2 k c0 c2 m2
    exact d3 k y c0 (by lia) ey (m2.pB sa ey (k3' (by lia)))
  · have e : k = 0 := by lia
    subst e
    exact d4 y ey (m.pB sa ey (k3' (by lia)))
theorem lo_two (hO : LtOk prog w A E s κ kd) (hk : kindOf st = kd) (ka : KeysOf κ a) (kb : KeysOf κ b) (sa : SrtR κ a 0 a.size) (sb : SrtR κ b 0 b.size) (m : MLa κ a b o la lb) (h1 : la + 1 < a.size) (h2 : lb < b.size)
    (d1 : ∀ k, k > 0 → lb + k = b.size → MLa κ a b (o ++ b.extract lb (lb + k)) la (lb + k) → wpS (model prog w) A E s (K1 (some k)) R st)
    (d2 : ∀ k x, k > 0 → lb + k < b.size → a[la]? = some x → MLa κ a b ((o ++ b.extract lb (lb + k)).push x) (la + 1) (lb + k) → wpS (model prog w) A E s (K1 (some k)) R st)
    (d3 : ∀ x, a[la]? = some x → MLa κ a b (o.push x) (la + 1) lb → wpS (model prog w) A E s (K1 (some 0)) R st) :
    wpS (model prog w) A E s (elem' a la >>= fun x => gallop' true x b lb (b.size - lb) 0 >>= K1) R st := by
  obtain ⟨x, ex, kx', _⟩ := key_at ka (i := la) (by lia)
  refine wpS_bind (wp_elem ex (wpS_bind (wp_gal hO hk kb kx' (by lia) (by lia) (fun p q p1 p2 p3 => sb p q (Nat.zero_le _) p2 (by lia)) fun k k1 k2 k3 => ?_)))
  have k2' : ∀ i, i < k → κ.kle (KK κ b (lb + i)) (KK κ a la) := fun i hi => KeyOrd.kle_of_klt (by simpa [bey, KeyOrd.klt] using k2 i hi)
  have k3' : k < b.size - lb → κ.kle (KK κ a la) (KK κ b (lb + k)) := fun hi => by
    have := k3 k (Nat.le_refl _) hi
    simpa [bey, KeyOrd.kle] using this
  by_cases c0 : k > 0
  · have m2 := m.eB (k := k) sa (by lia) k2'
    by_cases c1 : lb + k = b.size
    · exact d1 k c0 c1 m2
    exact d2 k x c0 (by lia) ex (m2.pA sb ex (k3' (by lia)))
  · have e : k = 0 := by lia
    subst e
    exact d3 x ex (m.pA sb ex (k3' (by lia)))
end
theorem wp_lo {st : SortSt} {a b : Array Keyed} {Q : Array Keyed → SortSt → Prop} (hO : LtOk prog w A E s κ kd) (hk : kindOf st = kd) (ka : KeysOf κ a) (kb : KeysOf κ b) (sa : SrtR κ a 0 a.size) (sb : SrtR κ b 0 b.size) (na : 0 < a.size) (nb : 0 < b.size)
    (hf : κ.klt (KK κ b 0) (KK κ a 0)) (hl : ∀ j, j < b.size → κ.kle (KK κ b j) (KK κ a (a.size - 1)))
    (hq : ∀ r st', Dn κ (a.toList ++ b.toList) r.toList → Sm st st' → Q r st') : wpS (model prog w) A E s (mergeLo' a b) Q st := by
  obtain ⟨y0, e0, k0, _⟩ := key_at kb nb
  have m0 : MLa κ a b #[] 0 0 := ⟨by simp, by simpa using sl_of_srt sa, by simpa using sl_of_srt sb⟩
  have m1 : MLa κ a b #[y0] 0 1 := m0.pB sa e0 (KeyOrd.kle_of_klt hf)
  unfold mergeLo'
  refine wpS_bind (wp_rule (wpS_bind (wp_elem e0 ?_)))
  by_cases c1 : 1 = b.size
  · rw [if_pos (by simpa using c1)]
    exact wpS_pure (hq _ _ (m1.dn (.inl c1)) (Sm.refl _))
  rw [if_neg (by simpa using c1)]
  by_cases c2 : 0 + 1 = a.size
  · rw [if_pos (by simpa using c2)]
    exact wpS_pure (hq _ _ (m1.last c2 hl) (Sm.refl _))
  rw [if_neg (by simpa using c2)]
  refine wpS_bind (wpS_get ?_)
  refine wpS_bind (wpS_mono (wpS_forRange (I := fun x c st1 => Sm st st1 ∧ ∃ out ia ib mg, c = (none, out, ia, ib, mg) ∧ MLa κ a b out ia ib ∧ ia + 1 < a.size ∧ ib < b.size ∧ x ≤ ia + ib)
    (Q := fun c st1 => Sm st st1 ∧ ∃ r t, c = (some r, t) ∧ Dn κ (a.toList ++ b.toList) r.toList) ?_ ?_ ⟨Sm.refl _, _, _, _, _, rfl, m1, by lia, by lia, by lia⟩) ?_)
  · rintro x c st1 _ hx ⟨hS, out, ia, ib, mg, rfl, m, g1, g2, g3⟩
    dsimp only
    have hk1 : kindOf st1 = kd := hS.2.2.1.trans hk
    refine wpS_bind (wpS_mono (wpS_forRange (I := fun x1 c st2 => st2 = st1 ∧ ∃ out ja jb ac bc, c = (none, out, ja, jb, ac, bc) ∧ MLa κ a b out ja jb ∧ ja + 1 < a.size ∧ jb < b.size ∧ ia + ib + x1 ≤ ja + jb)
      (Q := fun c st2 => st2 = st1 ∧ ((∃ r t, c = (some r, t) ∧ Dn κ (a.toList ++ b.toList) r.toList) ∨ ∃ out ja jb ac bc, c = (none, out, ja, jb, ac, bc) ∧ MLa κ a b out ja jb ∧ ja + 1 < a.size ∧ jb < b.size ∧ ia + ib + 1 ≤ ja + jb)) ?_ ?_ ⟨rfl, out, ia, ib, 0, 0, rfl, m, g1, g2, by lia⟩) ?_)
    · rintro x1 c st2 _ hx1 ⟨rfl, o, ja, jb, ac, bc, rfl, m, h1, h2, h3⟩
      dsimp only
      obtain ⟨y, ey, ky, _⟩ := key_at kb h2
      obtain ⟨x', ex, kx', _⟩ := key_at ka (i := ja) (by lia)
      refine wpS_bind (wp_elem ey (wpS_bind (wp_elem ex (wpS_bind (hO y x' _ _ _ _ ky kx' hk1 ?_)))))
      cases z : κ.blt (KK κ b jb) (KK κ a ja) with
      | true =>
        dsimp only
        rw [if_pos rfl]
        refine wpS_bind (wp_elem ey ?_)
        have m' := m.pB sa ey (KeyOrd.kle_of_klt z)
        by_cases c1 : jb + 1 = b.size
        · rw [if_pos (by simpa using c1)]
          exact wpS_pure ⟨rfl, .inl ⟨_, _, rfl, m'.dn (.inl c1)⟩⟩
        · rw [if_neg (by simpa using c1)]
          split
          · exact wpS_pure ⟨rfl, .inr ⟨_, _, _, _, _, rfl, m', h1, by lia, by lia⟩⟩
          · exact wpS_pure ⟨rfl, _, _, _, _, _, rfl, m', h1, by lia, by lia⟩
      | false =>
        dsimp only
        rw [if_neg (by decide)]
        refine wpS_bind (wp_elem ex ?_)
        have m' := m.pA sb ex z
        by_cases c1 : ja + 1 + 1 = a.size
        · rw [if_pos (by simpa using c1)]
          exact wpS_pure ⟨rfl, .inl ⟨_, _, rfl, m'.last c1 hl⟩⟩
        · rw [if_neg (by simpa using c1)]
          split
          · exact wpS_pure ⟨rfl, .inr ⟨_, _, _, _, _, rfl, m', by lia, h2, by lia⟩⟩
          · exact wpS_pure ⟨rfl, _, _, _, _, _, rfl, m', by lia, h2, by lia⟩
    · rintro c st2 ⟨rfl, o, ja, jb, ac, bc, rfl, m, h1, h2, h3⟩
      lia
    · rintro c st2 ⟨rfl, ⟨r, t, rfl, hd⟩ | ⟨o, ja, jb, ac, bc, rfl, m, h1, h2, h3⟩⟩
      · exact wpS_pure ⟨hS, r, _, rfl, hd⟩
      dsimp only
      refine wpS_bind (wp_rule (wpS_bind (wpS_mono (wpS_forRange (I := fun x2 c st3 => Sm st st3 ∧ ∃ out la lb mg ac bc, c = (none, out, la, lb, mg, ac, bc) ∧ MLa κ a b out la lb ∧ la + 1 < a.size ∧ lb < b.size ∧ ja + jb + x2 ≤ la + lb)
        (Q := fun c st3 => Sm st st3 ∧ ((∃ r t, c = (some r, t) ∧ Dn κ (a.toList ++ b.toList) r.toList) ∨ ∃ out la lb mg ac bc, c = (none, out, la, lb, mg, ac, bc) ∧ MLa κ a b out la lb ∧ la + 1 < a.size ∧ lb < b.size ∧ ja + jb ≤ la + lb)) ?_ ?_ ⟨hS, o, ja, jb, _, _, _, rfl, m, h1, h2, by lia⟩) ?_)))
      · rintro x2 c st3 _ hx2 ⟨hS3, o, la, lb, mg, ac, bc, rfl, m, h1, h2, h3⟩
        dsimp only
        rcases Nat.lt_or_ge 1 mg with cm | cm
        all_goals
          first
            | rw [if_pos (show mg > 1 by lia)]
            | rw [if_neg (show ¬ mg > 1 by lia)]
          refine wpS_bind (wp_min fun st4 hS4 => ?_)
          have hS4 := hS3.trans hS4
          have hk4 : kindOf st4 = kd := hS4.2.2.1.trans hk
          refine lo_one hO hk4 ka kb sa sb m h1 h2 (fun k p1 p2 m1 => ?_) (fun k p1 p2 m1 => ?_) (fun k y p1 p2 ey m1 => ?_) (fun y ey m1 => ?_)
          · dsimp only
            rw [if_pos p1, if_pos (by simpa using p2)]
            exact wpS_pure ⟨hS4, .inl ⟨_, _, rfl, m1.last p2 hl⟩⟩
          · dsimp only
            rw [if_pos p1, if_neg (by simp; lia), if_pos (by simpa using p2)]
            exact wpS_pure ⟨hS4, .inl ⟨_, _, rfl, m1.dn (.inr p2)⟩⟩
          · dsimp only
            rw [if_pos p1, if_neg (by simp; lia), if_neg (by simp; lia)]
            refine wpS_bind (wp_elem ey ?_)
            by_cases c1 : lb + 1 = b.size
            · rw [if_pos (by simpa using c1)]
              exact wpS_pure ⟨hS4, .inl ⟨_, _, rfl, m1.dn (.inl c1)⟩⟩
            rw [if_neg (by simpa using c1)]
            refine lo_two hO hk4 ka kb sa sb m1 p2 (by lia) (fun k2 q1 q2 m2 => ?_) (fun k2 x q1 q2 ex m2 => ?_) (fun x ex m2 => ?_)
            · dsimp only
              rw [if_pos q1, if_pos (by simpa using q2)]
              exact wpS_pure ⟨hS4, .inl ⟨_, _, rfl, m2.dn (.inl q2)⟩⟩
            · dsimp only
              rw [if_pos q1, if_neg (by simp; lia)]
              refine wpS_bind (wp_elem ex ?_)
              by_cases c2 : la + k + 1 + 1 = a.size
              · rw [if_pos (by simpa using c2)]
                exact wpS_pure ⟨hS4, .inl ⟨_, _, rfl, m2.last c2 hl⟩⟩
              rw [if_neg (by simpa using c2)]
              split
              · exact wpS_pure ⟨hS4, .inr ⟨_, _, _, _, _, _, rfl, m2, by lia, by lia, by lia⟩⟩
              · exact wpS_pure ⟨hS4, _, _, _, _, _, _, rfl, m2, by lia, by lia, by lia⟩
            · dsimp only
              rw [if_neg (by decide)]
              refine wpS_bind (wp_elem ex ?_)
              by_cases c2 : la + k + 1 + 1 = a.size
              · rw [if_pos (by simpa using c2)]
                exact wpS_pure ⟨hS4, .inl ⟨_, _, rfl, m2.last c2 hl⟩⟩
              rw [if_neg (by simpa using c2)]
              split
              · exact wpS_pure ⟨hS4, .inr ⟨_, _, _, _, _, _, rfl, m2, by lia, by lia, by lia⟩⟩
              · exact wpS_pure ⟨hS4, _, _, _, _, _, _, rfl, m2, by lia, by lia, by lia⟩
          · dsimp only
            rw [if_neg (by decide)]
            refine wpS_bind (wp_elem ey ?_)
            by_cases c1 : lb + 1 = b.size
            · rw [if_pos (by simpa using c1)]
              exact wpS_pure ⟨hS4, .inl ⟨_, _, rfl, m1.dn (.inl c1)⟩⟩
            rw [if_neg (by simpa using c1)]
            refine lo_two hO hk4 ka kb sa sb m1 h1 (by lia) (fun k2 q1 q2 m2 => ?_) (fun k2 x q1 q2 ex m2 => ?_) (fun x ex m2 => ?_)
            · dsimp only
              rw [if_pos q1, if_pos (by simpa using q2)]
              exact wpS_pure ⟨hS4, .inl ⟨_, _, rfl, m2.dn (.inl q2)⟩⟩
            · dsimp only
              rw [if_pos q1, if_neg (by simp; lia)]
              refine wpS_bind (wp_elem ex ?_)
              by_cases c2 : la + 1 + 1 = a.size
              · rw [if_pos (by simpa using c2)]
                exact wpS_pure ⟨hS4, .inl ⟨_, _, rfl, m2.last c2 hl⟩⟩
              rw [if_neg (by simpa using c2)]
              split
              · exact wpS_pure ⟨hS4, .inr ⟨_, _, _, _, _, _, rfl, m2, by lia, by lia, by lia⟩⟩
              · exact wpS_pure ⟨hS4, _, _, _, _, _, _, rfl, m2, by lia, by lia, by lia⟩
            · dsimp only
              rw [if_neg (by decide)]
              refine wpS_bind (wp_elem ex ?_)
              by_cases c2 : la + 1 + 1 = a.size
              · rw [if_pos (by simpa using c2)]
                exact wpS_pure ⟨hS4, .inl ⟨_, _, rfl, m2.last c2 hl⟩⟩
              rw [if_neg (by simpa using c2)]
              split
              · exact wpS_pure ⟨hS4, .inr ⟨_, _, _, _, _, _, rfl, m2, by lia, by lia, by lia⟩⟩
              · exact wpS_pure ⟨hS4, _, _, _, _, _, _, rfl, m2, by lia, by lia, by lia⟩
      · rintro c st3 ⟨hS3, o, la, lb, mg, ac, bc, rfl, m, h1, h2, h3⟩
        lia
      · rintro c st3 ⟨hS3, ⟨r, t, rfl, hd⟩ | ⟨o, la, lb, mg, ac, bc, rfl, m, h1, h2, h3⟩⟩
        · exact wpS_pure ⟨hS3, r, _, rfl, hd⟩
        dsimp only
        refine wpS_bind (wp_min fun st4 hS4 => wpS_pure ⟨hS3.trans hS4, _, _, _, _, rfl, m, h1, h2, by lia⟩)
  · rintro c st1 ⟨_, out, ia, ib, mg, rfl, _, g1, g2, g3⟩
    lia
  · rintro c st1 ⟨h1, r, t, rfl, h2⟩
    exact wpS_pure (hq r st1 h2 h1)
end
end TS

set_option autoImplicit false
set_option maxHeartbeats 4000000
set_option linter.all false
namespace TS
open PySem PyProof.Rows
section
variable {κ : KeyKind} {a b out : Array Keyed} {ia ib k : Nat}
abbrev MHa (κ : KeyKind) (a b : Array Keyed) (out : Array Keyed) (ia ib : Nat) : Prop := MH κ (a.toList ++ b.toList) (a.toList.take ia) (b.toList.take ib) out.toList.reverse
theorem MHa.dn (h : MHa κ a b out ia ib) (e : ib = 0 ∨ ia = 0) : Dn κ (a.toList ++ b.toList) (a.extract 0 ia ++ b.extract 0 ib ++ out.reverse).toList := by
  rw [Array.toList_append, Array.toList_append, ext_take, ext_take, Array.toList_reverse]
  rcases e with rfl | rfl
  · rw [MHa, List.take_zero] at h
    rw [List.take_zero, List.append_nil]
    exact h.endB
  · rw [MHa, List.take_zero] at h
    rw [List.take_zero, List.nil_append]
    exact h.endA
theorem MHa.first (h : MHa κ a b out ia ib) (ha : ia ≤ a.size) (hb : 0 < b.size) (e : ib = 1) (sa : SrtR κ a 0 a.size) (hf : κ.klt (KK κ b 0) (KK κ a 0)) : Dn κ (a.toList ++ b.toList) (b.extract 0 ib ++ a.extract 0 ia ++ out.reverse).toList := by
  rw [Array.toList_append, Array.toList_append, ext_take, ext_take, Array.toList_reverse]
  refine h.endS fun y hy x hx => ?_
  obtain ⟨j, j1, j2⟩ := mem_take (κ := κ) (by lia) hy
  obtain ⟨i, i1, i2⟩ := mem_take (κ := κ) ha hx
  unfold lek
  rw [← j2, ← i2, show j = 0 by lia]
  exact KeyOrd.kle_trans (KeyOrd.kle_of_klt hf) (sa 0 i (Nat.zero_le _) (Nat.zero_le _) (by lia))
theorem MHa.pA {x : Keyed} (h : MHa κ a b out (ia + 1) ib) (hb : ib ≤ b.size) (sb : SrtR κ b 0 b.size) (e : a[ia]? = some x) (hl : 0 < ib → κ.kle (KK κ b (ib - 1)) (KK κ a ia)) : MHa κ a b (out.push x) ia ib := by
  unfold MHa at h ⊢
  rw [take_at e] at h
  rw [Array.toList_push, List.reverse_append]
  refine h.pushA fun y hy => ?_
  obtain ⟨j, j1, j2⟩ := mem_take (κ := κ) hb hy
  unfold lek
  rw [← j2, ← KK_at e]
  exact KeyOrd.kle_trans (sb j (ib - 1) (Nat.zero_le _) (by lia) (by lia)) (hl (by lia))
theorem MHa.pB {y : Keyed} (h : MHa κ a b out ia (ib + 1)) (ha : ia ≤ a.size) (sa : SrtR κ a 0 a.size) (e : b[ib]? = some y) (hl : 0 < ia → κ.kle (KK κ a (ia - 1)) (KK κ b ib)) : MHa κ a b (out.push y) ia ib := by
  unfold MHa at h ⊢
  rw [take_at e] at h
  rw [Array.toList_push, List.reverse_append]
  refine h.pushB fun x hx => ?_
  obtain ⟨j, j1, j2⟩ := mem_take (κ := κ) ha hx
  unfold lek
  rw [← j2, ← KK_at e]
  exact KeyOrd.kle_trans (sa j (ia - 1) (Nat.zero_le _) (by lia) (by lia)) (hl (by lia))
theorem MHa.eA (h : MHa κ a b out ia ib) (hb : ib ≤ b.size) (hb0 : 0 < ib) (sb : SrtR κ b 0 b.size) (hk : k ≤ ia) (ha : ia ≤ a.size) (hl : ∀ i, k ≤ i → i < ia → κ.kle (KK κ b (ib - 1)) (KK κ a i)) : MHa κ a b (out ++ (a.extract k ia).reverse) k ib := by
  unfold MHa at h ⊢
  rw [take_cut hk ha] at h
  rw [Array.toList_append, Array.toList_reverse, List.reverse_append, List.reverse_reverse]
  refine h.extA fun x hx y hy => ?_
  obtain ⟨i, i1, i2, i3⟩ := mem_ext (κ := κ) ha hx
  obtain ⟨j, j1, j2⟩ := mem_take (κ := κ) hb hy
  unfold lek
  rw [← i3, ← j2]
  exact KeyOrd.kle_trans (sb j (ib - 1) (Nat.zero_le _) (by lia) (by lia)) (hl i i1 i2)
theorem MHa.eB (h : MHa κ a b out ia ib) (ha : ia ≤ a.size) (ha0 : 0 < ia) (sa : SrtR κ a 0 a.size) (hk : k ≤ ib) (hb : ib ≤ b.size) (hl : ∀ i, k ≤ i → i < ib → κ.kle (KK κ a (ia - 1)) (KK κ b i)) : MHa κ a b (out ++ (b.extract k ib).reverse) ia k := by
  unfold MHa at h ⊢
  rw [take_cut hk hb] at h
  rw [Array.toList_append, Array.toList_reverse, List.reverse_append, List.reverse_reverse]
  refine h.extB fun y hy x hx => ?_
  obtain ⟨i, i1, i2, i3⟩ := mem_ext (κ := κ) hb hy
  obtain ⟨j, j1, j2⟩ := mem_take (κ := κ) ha hx
  unfold lek
  rw [← i3, ← j2]
  exact KeyOrd.kle_trans (sa j (ia - 1) (Nat.zero_le _) (by lia) (by lia)) (hl i i1 i2)
end
section
variable {prog : Program} {w : World} {A : Around} {E : Value → Shared → Prop} {s : Shared} {κ : KeyKind} {kd : SortKind}
section
variable {β : Type} {R : β → SortSt → Prop} {st : SortSt} {K1 : Option Nat → StateT SortSt Sem β} {a b o : Array Keyed} {la lb : Nat}
theorem hi_one (hO : LtOk prog w A E s κ kd) (hk : kindOf st = kd) (ka : KeysOf κ a) (kb : KeysOf κ b) (sa : SrtR κ a 0 a.size) (sb : SrtR κ b 0 b.size) (m : MHa κ a b o la lb) (h1 : 0 < la) (h1' : la ≤ a.size) (h2 : 1 < lb) (h2' : lb ≤ b.size)
    (d1 : ∀ k, la - k > 0 → k = 0 → MHa κ a b (o ++ (a.extract k la).reverse) k lb → wpS (model prog w) A E s (K1 (some k)) R st)
    (d2 : ∀ k y, la - k > 0 → 0 < k → b[lb - 1]? = some y → MHa κ a b ((o ++ (a.extract k la).reverse).push y) k (lb - 1) → wpS (model prog w) A E s (K1 (some k)) R st)
    (d3 : ∀ y, b[lb - 1]? = some y → MHa κ a b (o.push y) la (lb - 1) → wpS (model prog w) A E s (K1 (some la)) R st) :
    wpS (model prog w) A E s (elem' b (lb - 1) >>= fun y => gallop' false y a 0 la (la - 1) >>= K1) R st := by
  obtain ⟨y, ey, ky, _⟩ := key_at kb (i := lb - 1) (by lia)
  refine wpS_bind (wp_elem ey (wpS_bind (wp_gal hO hk ka ky (by lia) (by lia) (fun p q p1 p2 p3 => sa p q (Nat.zero_le _) p2 (by lia)) fun k k1 k2 k3 => ?_)))
  have k2' : ∀ i, i < k → κ.kle (KK κ a i) (KK κ b (lb - 1)) := fun i hi => by simpa [bey, KeyOrd.kle] using k2 i hi
  have k3' : ∀ i, k ≤ i → i < la → κ.kle (KK κ b (lb - 1)) (KK κ a i) := fun i i1 i2 => by
    have := k3 i i1 i2
    exact KeyOrd.kle_of_klt (by simpa [bey, KeyOrd.klt] using this)
  by_cases c0 : la - k > 0
  · have m2 := m.eA (k := k) h2' (by lia) sb (by lia) h1' k3'
    by_cases c1 : k = 0
    · exact d1 k c0 c1 m2
    refine d2 k y c0 (by lia) ey (MHa.pB ?_ (by lia) sa ey fun _ => k2' (k - 1) (by lia))
    rw [show lb - 1 + 1 = lb by lia]; exact m2
  · have e : k = la := by lia
    subst e
    refine d3 y ey (MHa.pB ?_ (by lia) sa ey fun _ => k2' (k - 1) (by lia))
    rw [show lb - 1 + 1 = lb by lia]; exact m
theorem hi_two (hO : LtOk prog w A E s κ kd) (hk : kindOf st = kd) (ka : KeysOf κ a) (kb : KeysOf κ b) (sa : SrtR κ a 0 a.size) (sb : SrtR κ b 0 b.size) (m : MHa κ a b o la lb) (h1 : 0 < la) (h1' : la ≤ a.size) (h2 : 1 < lb) (h2' : lb ≤ b.size)
    (d1 : ∀ k, lb - k > 0 → k = 1 → MHa κ a b (o ++ (b.extract k lb).reverse) la k → wpS (model prog w) A E s (K1 (some k)) R st)
    (d2 : ∀ k, lb - k > 0 → k = 0 → MHa κ a b (o ++ (b.extract k lb).reverse) la k → wpS (model prog w) A E s (K1 (some k)) R st)
    (d3 : ∀ k x, lb - k > 0 → 1 < k → a[la - 1]? = some x → MHa κ a b ((o ++ (b.extract k lb).reverse).push x) (la - 1) k → wpS (model prog w) A E s (K1 (some k)) R st)
    (d4 : ∀ x, a[la - 1]? = some x → MHa κ a b (o.push x) (la - 1) lb → wpS (model prog w) A E s (K1 (some lb)) R st) :
    wpS (model prog w) A E s (elem' a (la - 1) >>= fun x => gallop' true x b 0 lb (lb - 1) >>= K1) R st := by
  obtain ⟨x, ex, kx', _⟩ := key_at ka (i := la - 1) (by lia)
  refine wpS_bind (wp_elem ex (wpS_bind (wp_gal hO hk kb kx' (by lia) (by lia) (fun p q p1 p2 p3 => sb p q (Nat.zero_le _) p2 (by lia)) fun k k1 k2 k3 => ?_)))
  have k2' : ∀ i, i < k → κ.kle (KK κ b i) (KK κ a (la - 1)) := fun i hi => KeyOrd.kle_of_klt (by simpa [bey, KeyOrd.klt] using k2 i hi)
  have k3' : ∀ i, k ≤ i → i < lb → κ.kle (KK κ a (la - 1)) (KK κ b i) := fun i i1 i2 => by
    have := k3 i i1 i2
    simpa [bey, KeyOrd.kle] using this
  by_cases c0 : lb - k > 0
  · have m2 := m.eB (k := k) h1' h1 sa (by lia) h2' k3'
    by_cases c1 : k = 1
    · exact d1 k c0 c1 m2
    by_cases c2 : k = 0
    · exact d2 k c0 c2 m2
    refine d3 k x c0 (by lia) ex (MHa.pA ?_ (by lia) sb ex fun _ => k2' (k - 1) (by lia))
    rw [show la - 1 + 1 = la by lia]; exact m2
  · have e : k = lb := by lia
    subst e
    refine d4 x ex (MHa.pA ?_ (by lia) sb ex fun _ => k2' (k - 1) (by lia))
    rw [show la - 1 + 1 = la by lia]; exact m
end
theorem wp_hi {st : SortSt} {a b : Array Keyed} {Q : Array Keyed → SortSt → Prop} (hO : LtOk prog w A E s κ kd) (hk : kindOf st = kd) (ka : KeysOf κ a) (kb : KeysOf κ b) (sa : SrtR κ a 0 a.size) (sb : SrtR κ b 0 b.size) (na : 0 < a.size) (nb : 0 < b.size)
    (hf : κ.klt (KK κ b 0) (KK κ a 0)) (hl : ∀ j, j < b.size → κ.kle (KK κ b j) (KK κ a (a.size - 1)))
    (hq : ∀ r st', Dn κ (a.toList ++ b.toList) r.toList → Sm st st' → Q r st') : wpS (model prog w) A E s (mergeHi' a b) Q st := by
  obtain ⟨x0, e0, k0, _⟩ := key_at ka (i := a.size - 1) (by lia)
  have m0 : MHa κ a b #[] a.size b.size := by
    have ta : a.toList.take a.size = a.toList := by rw [← Array.length_toList, List.take_length]
    have tb : b.toList.take b.size = b.toList := by rw [← Array.length_toList, List.take_length]
    have es : (#[] : Array Keyed).toList.reverse = [] := rfl
    refine ⟨?_, ?_, ?_⟩
    · rw [ta, tb, es, List.append_nil]
    · rw [ta, es, List.append_nil]; exact sl_of_srt sa
    · rw [tb, es, List.append_nil]; exact sl_of_srt sb
  have m1 : MHa κ a b #[x0] (a.size - 1) b.size := MHa.pA (out := #[]) (by rw [show a.size - 1 + 1 = a.size by lia]; exact m0) (Nat.le_refl _) sb e0 fun _ => hl _ (by lia)
  unfold mergeHi'
  refine wpS_bind (wp_rule (wpS_bind (wp_elem e0 ?_)))
  by_cases c1 : a.size - 1 = 0
  · rw [if_pos (by simpa using c1)]
    exact wpS_pure (hq _ _ (m1.dn (.inr c1)) (Sm.refl _))
  rw [if_neg (by simpa using c1)]
  by_cases c2 : b.size = 1
  · rw [if_pos (by simpa using c2)]
    exact wpS_pure (hq _ _ (m1.first (by lia) nb c2 sa hf) (Sm.refl _))
  rw [if_neg (by simpa using c2)]
  refine wpS_bind (wpS_get ?_)
  refine wpS_bind (wpS_mono (wpS_forRange (I := fun x c st1 => Sm st st1 ∧ ∃ ia ib out mg, c = (none, ia, ib, out, mg) ∧ MHa κ a b out ia ib ∧ 0 < ia ∧ ia ≤ a.size ∧ 1 < ib ∧ ib ≤ b.size ∧ x + (ia + ib) ≤ a.size + b.size)
    (Q := fun c st1 => Sm st st1 ∧ ∃ r t, c = (some r, t) ∧ Dn κ (a.toList ++ b.toList) r.toList) ?_ ?_ ⟨Sm.refl _, _, _, _, _, rfl, m1, by lia, by lia, by lia, by lia, by lia⟩) ?_)
  · rintro x c st1 _ hx ⟨hS, ia, ib, out, mg, rfl, m, g1, g1', g2, g2', g3⟩
    dsimp only
    have hk1 : kindOf st1 = kd := hS.2.2.1.trans hk
    refine wpS_bind (wpS_mono (wpS_forRange (I := fun x1 c st2 => st2 = st1 ∧ ∃ ja jb out ac bc, c = (none, ja, jb, out, ac, bc) ∧ MHa κ a b out ja jb ∧ 0 < ja ∧ ja ≤ a.size ∧ 1 < jb ∧ jb ≤ b.size ∧ x1 + (ja + jb) ≤ ia + ib)
      (Q := fun c st2 => st2 = st1 ∧ ((∃ r t, c = (some r, t) ∧ Dn κ (a.toList ++ b.toList) r.toList) ∨ ∃ ja jb out ac bc, c = (none, ja, jb, out, ac, bc) ∧ MHa κ a b out ja jb ∧ 0 < ja ∧ ja ≤ a.size ∧ 1 < jb ∧ jb ≤ b.size ∧ 1 + (ja + jb) ≤ ia + ib)) ?_ ?_ ⟨rfl, ia, ib, out, 0, 0, rfl, m, g1, g1', g2, g2', by lia⟩) ?_)
    · rintro x1 c st2 _ hx1 ⟨rfl, ja, jb, o, ac, bc, rfl, m, h1, h1', h2, h2', h3⟩
      dsimp only
      obtain ⟨y, ey, ky, _⟩ := key_at kb (i := jb - 1) (by lia)
      obtain ⟨x', ex, kx', _⟩ := key_at ka (i := ja - 1) (by lia)
      refine wpS_bind (wp_elem ey (wpS_bind (wp_elem ex (wpS_bind (hO y x' _ _ _ _ ky kx' hk1 ?_)))))
      cases z : κ.blt (KK κ b (jb - 1)) (KK κ a (ja - 1)) with
      | true =>
        dsimp only
        rw [if_pos rfl]
        refine wpS_bind (wp_elem ex ?_)
        have m' : MHa κ a b (o.push x') (ja - 1) jb := MHa.pA (by rw [show ja - 1 + 1 = ja by lia]; exact m) h2' sb ex fun _ => KeyOrd.kle_of_klt z
        by_cases c1 : ja - 1 = 0
        · rw [if_pos (by simpa using c1)]
          exact wpS_pure ⟨rfl, .inl ⟨_, _, rfl, m'.dn (.inr c1)⟩⟩
        · rw [if_neg (by simpa using c1)]
          split
          · exact wpS_pure ⟨rfl, .inr ⟨_, _, _, _, _, rfl, m', by lia, by lia, h2, h2', by lia⟩⟩
          · exact wpS_pure ⟨rfl, _, _, _, _, _, rfl, m', by lia, by lia, h2, h2', by lia⟩
      | false =>
        dsimp only
        rw [if_neg (by decide)]
        refine wpS_bind (wp_elem ey ?_)
        have m' : MHa κ a b (o.push y) ja (jb - 1) := MHa.pB (by rw [show jb - 1 + 1 = jb by lia]; exact m) h1' sa ey fun _ => z
        by_cases c1 : jb - 1 = 1
        · rw [if_pos (by simpa using c1)]
          exact wpS_pure ⟨rfl, .inl ⟨_, _, rfl, m'.first h1' nb c1 sa hf⟩⟩
        · rw [if_neg (by simpa using c1)]
          split
          · exact wpS_pure ⟨rfl, .inr ⟨_, _, _, _, _, rfl, m', h1, h1', by lia, by lia, by lia⟩⟩
          · exact wpS_pure ⟨rfl, _, _, _, _, _, rfl, m', h1, h1', by lia, by lia, by lia⟩
    · rintro c st2 ⟨rfl, ja, jb, o, ac, bc, rfl, m, h1, h1', h2, h2', h3⟩
      lia
    · rintro c st2 ⟨rfl, ⟨r, t, rfl, hd⟩ | ⟨ja, jb, o, ac, bc, rfl, m, h1, h1', h2, h2', h3⟩⟩
      · exact wpS_pure ⟨hS, r, _, rfl, hd⟩
      dsimp only
      refine wpS_bind (wp_rule (wpS_bind (wpS_mono (wpS_forRange (I := fun x2 c st3 => Sm st st3 ∧ ∃ la lb out mg ac bc, c = (none, la, lb, out, mg, ac, bc) ∧ MHa κ a b out la lb ∧ 0 < la ∧ la ≤ a.size ∧ 1 < lb ∧ lb ≤ b.size ∧ x2 + (la + lb) ≤ ja + jb)
        (Q := fun c st3 => Sm st st3 ∧ ((∃ r t, c = (some r, t) ∧ Dn κ (a.toList ++ b.toList) r.toList) ∨ ∃ la lb out mg ac bc, c = (none, la, lb, out, mg, ac, bc) ∧ MHa κ a b out la lb ∧ 0 < la ∧ la ≤ a.size ∧ 1 < lb ∧ lb ≤ b.size ∧ la + lb ≤ ja + jb)) ?_ ?_ ⟨hS, ja, jb, o, _, _, _, rfl, m, h1, h1', h2, h2', by lia⟩) ?_)))
      · rintro x2 c st3 _ hx2 ⟨hS3, la, lb, o, mg, ac, bc, rfl, m, h1, h1', h2, h2', h3⟩
        dsimp only
        rcases Nat.lt_or_ge 1 mg with cm | cm
        all_goals
          first
            | rw [if_pos (show mg > 1 by lia)]
            | rw [if_neg (show ¬ mg > 1 by lia)]
          refine wpS_bind (wp_min fun st4 hS4 => ?_)
          have hS4 := hS3.trans hS4
          have hk4 : kindOf st4 = kd := hS4.2.2.1.trans hk
          refine hi_one hO hk4 ka kb sa sb m h1 h1' h2 h2' (fun k p1 p2 m1 => ?_) (fun k y p1 p2 ey m1 => ?_) (fun y ey m1 => ?_)
          · dsimp only
            rw [if_pos p1, if_pos (by simpa using p2)]
            exact wpS_pure ⟨hS4, .inl ⟨_, _, rfl, m1.dn (.inr p2)⟩⟩
          · dsimp only
            rw [if_pos p1, if_neg (by simp; lia)]
            refine wpS_bind (wp_elem ey ?_)
            by_cases c1 : lb - 1 = 1
            · rw [if_pos (by simpa using c1)]
              exact wpS_pure ⟨hS4, .inl ⟨_, _, rfl, m1.first (by lia) nb c1 sa hf⟩⟩
            rw [if_neg (by simpa using c1)]
            refine hi_two hO hk4 ka kb sa sb m1 p2 (by lia) (by lia) (by lia) (fun k2 q1 q2 m2 => ?_) (fun k2 q1 q2 m2 => ?_) (fun k2 x q1 q2 ex m2 => ?_) (fun x ex m2 => ?_)
            · dsimp only
              rw [if_pos q1, if_pos (by simpa using q2)]
              exact wpS_pure ⟨hS4, .inl ⟨_, _, rfl, m2.first (by lia) nb q2 sa hf⟩⟩
            · dsimp only
              rw [if_pos q1, if_neg (by simp; lia), if_pos (by simpa using q2)]
              exact wpS_pure ⟨hS4, .inl ⟨_, _, rfl, m2.dn (.inl q2)⟩⟩
            · dsimp only
              rw [if_pos q1, if_neg (by simp; lia), if_neg (by simp; lia)]
              refine wpS_bind (wp_elem ex ?_)
              by_cases c2 : k - 1 = 0
              · rw [if_pos (by simpa using c2)]
                exact wpS_pure ⟨hS4, .inl ⟨_, _, rfl, m2.dn (.inr c2)⟩⟩
              rw [if_neg (by simpa using c2)]
              split
              · exact wpS_pure ⟨hS4, .inr ⟨_, _, _, _, _, _, rfl, m2, by lia, by lia, by lia, by lia, by lia⟩⟩
              · exact wpS_pure ⟨hS4, _, _, _, _, _, _, rfl, m2, by lia, by lia, by lia, by lia, by lia⟩
            · dsimp only
              rw [if_neg (by lia)]
              refine wpS_bind (wp_elem ex ?_)
              by_cases c2 : k - 1 = 0
              · rw [if_pos (by simpa using c2)]
                exact wpS_pure ⟨hS4, .inl ⟨_, _, rfl, m2.dn (.inr c2)⟩⟩
              rw [if_neg (by simpa using c2)]
              split
              · exact wpS_pure ⟨hS4, .inr ⟨_, _, _, _, _, _, rfl, m2, by lia, by lia, by lia, by lia, by lia⟩⟩
              · exact wpS_pure ⟨hS4, _, _, _, _, _, _, rfl, m2, by lia, by lia, by lia, by lia, by lia⟩
          · dsimp only
            rw [if_neg (by lia)]
            refine wpS_bind (wp_elem ey ?_)
            by_cases c1 : lb - 1 = 1
            · rw [if_pos (by simpa using c1)]
              exact wpS_pure ⟨hS4, .inl ⟨_, _, rfl, m1.first (by lia) nb c1 sa hf⟩⟩
            rw [if_neg (by simpa using c1)]
            refine hi_two hO hk4 ka kb sa sb m1 h1 (by lia) (by lia) (by lia) (fun k2 q1 q2 m2 => ?_) (fun k2 q1 q2 m2 => ?_) (fun k2 x q1 q2 ex m2 => ?_) (fun x ex m2 => ?_)
            · dsimp only
              rw [if_pos q1, if_pos (by simpa using q2)]
              exact wpS_pure ⟨hS4, .inl ⟨_, _, rfl, m2.first (by lia) nb q2 sa hf⟩⟩
            · dsimp only
              rw [if_pos q1, if_neg (by simp; lia), if_pos (by simpa using q2)]
              exact wpS_pure ⟨hS4, .inl ⟨_, _, rfl, m2.dn (.inl q2)⟩⟩
            · dsimp only
              rw [if_pos q1, if_neg (by simp; lia), if_neg (by simp; lia)]
              refine wpS_bind (wp_elem ex ?_)
              by_cases c2 : la - 1 = 0
              · rw [if_pos (by simpa using c2)]
                exact wpS_pure ⟨hS4, .inl ⟨_, _, rfl, m2.dn (.inr c2)⟩⟩
              rw [if_neg (by simpa using c2)]
              split
              · exact wpS_pure ⟨hS4, .inr ⟨_, _, _, _, _, _, rfl, m2, by lia, by lia, by lia, by lia, by lia⟩⟩
              · exact wpS_pure ⟨hS4, _, _, _, _, _, _, rfl, m2, by lia, by lia, by lia, by lia, by lia⟩
            · dsimp only
              rw [if_neg (by lia)]
              refine wpS_bind (wp_elem ex ?_)
              by_cases c2 : la - 1 = 0
              · rw [if_pos (by simpa using c2)]
                exact wpS_pure ⟨hS4, .inl ⟨_, _, rfl, m2.dn (.inr c2)⟩⟩
              rw [if_neg (by simpa using c2)]
              split
              · exact wpS_pure ⟨hS4, .inr ⟨_, _, _, _, _, _, rfl, m2, by lia, by lia, by lia, by lia, by lia⟩⟩
              · exact wpS_pure ⟨hS4, _, _, _, _, _, _, rfl, m2, by lia, by lia, by lia, by lia, by lia⟩
      · rintro c st3 ⟨hS3, la, lb, o, mg, ac, bc, rfl, m, h1, h1', h2, h2', h3⟩
        lia
      · rintro c st3 ⟨hS3, ⟨r, t, rfl, hd⟩ | ⟨la, lb, o, mg, ac, bc, rfl, m, h1, h1', h2, h2', h3⟩⟩
        · exact wpS_pure ⟨hS3, r, _, rfl, hd⟩
        dsimp only
        refine wpS_bind (wp_min fun st4 hS4 => wpS_pure ⟨hS3.trans hS4, _, _, _, _, rfl, m, h1, h1', h2, h2', by lia⟩)
  · rintro c st1 ⟨_, ia, ib, out, mg, rfl, _, g1, g1', g2, g2', g3⟩
    lia
  · rintro c st1 ⟨h1, r, t, rfl, h2⟩
    exact wpS_pure (hq r st1 h2 h1)
end
end TS

set_option autoImplicit false
set_option maxHeartbeats 4000000
set_option linter.all false
namespace TS
open PySem PyProof.Rows
section
variable {κ : KeyKind}
/-! ### a part of an array is changed -/
theorem put_at {l : List Keyed} : ∀ {xs : Array Keyed} {P M T : List Keyed} {n j : Nat}, xs.toList = P ++ M ++ T → P.length = n + j → M.length = l.length →
    ((l.zipIdx j).foldl (fun a x => a.setIfInBounds (n + x.2) x.1) xs).toList = P ++ l ++ T := by
  induction l with
  | nil =>
    intro xs P M T n j e hP hM
    have : M = [] := List.eq_nil_of_length_eq_zero hM
    subst this
    simpa using e
  | cons x l ih =>
    intro xs P M T n j e hP hM
    cases M with
    | nil => simp at hM
    | cons y M =>
      rw [List.zipIdx_cons, List.foldl_cons]
      have e2 : (xs.setIfInBounds (n + j) x).toList = (P ++ [x]) ++ M ++ T := by
        rw [Array.toList_setIfInBounds, e, ← hP]
        simp
      have := ih (j := j + 1) (n := n) e2 (by simp; lia) (by simpa using hM)
      rw [this]
      simp
theorem KK_list {xs : Array Keyed} {i : Nat} : KK κ xs i = match xs.toList[i]? with
    | some p => kx κ p
    | none => κ.dflt := by
  unfold KK kx
  rw [Array.getElem?_toList]
  cases xs[i]? <;> rfl
theorem KK_out {xs ys : Array Keyed} {P M M' T : List Keyed} (h : xs.toList = P ++ M ++ T) (h' : ys.toList = P ++ M' ++ T) (hl : M'.length = M.length) {q : Nat} (hq : q < P.length ∨ P.length + M.length ≤ q) : KK κ ys q = KK κ xs q := by
  rw [KK_list, KK_list, h, h']
  have : (P ++ M' ++ T)[q]? = (P ++ M ++ T)[q]? := by
    rcases hq with hq | hq
    · rw [List.append_assoc, List.append_assoc, List.getElem?_append_left hq, List.getElem?_append_left hq]
    · rw [List.getElem?_append_right (by rw [List.length_append]; lia), List.getElem?_append_right (by rw [List.length_append]; lia), List.length_append, List.length_append, hl]
  rw [this]
theorem srt_mid {xs : Array Keyed} {P M T : List Keyed} (h : xs.toList = P ++ M ++ T) (hs : SL κ M) : SrtR κ xs P.length (P.length + M.length) := fun p q h1 h2 h3 => by
  by_cases e : p = q
  · subst e; exact κ.irrefl _
  have g : ∀ r, P.length ≤ r → r < P.length + M.length → ∃ hr : r - P.length < M.length, KK κ xs r = kx κ M[r - P.length] := fun r r1 r2 => by
    refine ⟨by lia, ?_⟩
    rw [KK_list, h, List.append_assoc, List.getElem?_append_right r1, List.getElem?_append_left (by lia), List.getElem?_eq_getElem (by lia)]
  obtain ⟨a1, a2⟩ := g p h1 (by lia)
  obtain ⟨b1, b2⟩ := g q (by lia) h3
  rw [a2, b2]
  exact List.pairwise_iff_getElem.mp hs _ _ a1 b1 (by lia)
theorem KK_ext {xs : Array Keyed} {i n j : Nat} (hj : j < n - i) (hn : n ≤ xs.size) : KK κ (xs.extract i n) j = KK κ xs (i + j) := by
  refine KK_congr ?_
  rw [Array.getElem?_extract, if_pos (by lia)]
theorem ext_size {xs : Array Keyed} {i n : Nat} (hn : n ≤ xs.size) : (xs.extract i n).size = n - i := by
  rw [Array.size_extract, Nat.min_eq_left hn]
theorem ext_srt {xs : Array Keyed} {i n lo hi : Nat} (hn : n ≤ xs.size) (h : SrtR κ xs lo hi) (h1 : lo ≤ i) (h2 : n ≤ hi) : SrtR κ (xs.extract i n) 0 (xs.extract i n).size := fun p q p1 p2 p3 => by
  rw [ext_size hn] at p3
  rw [KK_ext (by lia) hn, KK_ext (by lia) hn]
  exact h _ _ (by lia) (by lia) (by lia)
theorem keys_ext {xs : Array Keyed} {i n : Nat} (h : KeysOf κ xs) : KeysOf κ (xs.extract i n) := fun p hp => by
  refine h p ?_
  rw [Array.toList_extract, List.extract_eq_drop_take] at hp
  exact List.mem_of_mem_drop (List.mem_of_mem_take hp)
theorem cut3 {xs : Array Keyed} {i j : Nat} (h : i ≤ j) (hj : j ≤ xs.size) : xs.toList = (xs.extract 0 i).toList ++ (xs.extract i j).toList ++ (xs.extract j xs.size).toList := by
  rw [ext_take, ← take_cut h hj, ← take_cut hj (Nat.le_refl _), ← Array.length_toList, List.take_length]
theorem ext_cat {xs : Array Keyed} {i j k : Nat} (h : i ≤ j) (h2 : j ≤ k) (hk : k ≤ xs.size) : (xs.extract i k).toList = (xs.extract i j).toList ++ (xs.extract j k).toList := by
  have e1 := take_cut (xs := xs) h (by lia)
  have e2 := take_cut (xs := xs) h2 hk
  have e3 := take_cut (xs := xs) (Nat.le_trans h h2) hk
  rw [e2, e1, List.append_assoc] at e3
  exact (List.append_cancel_left e3).symm
theorem ext_len {xs : Array Keyed} {i n : Nat} (hn : n ≤ xs.size) : (xs.extract i n).toList.length = n - i := by rw [Array.length_toList, ext_size hn]
theorem sl_ext {xs : Array Keyed} {i n : Nat} (hn : n ≤ xs.size) (h : SrtR κ xs i n) : SL κ (xs.extract i n).toList := sl_of_srt (ext_srt hn h (Nat.le_refl _) (Nat.le_refl _))
/-- what stands in two runs, merged -/
theorem merged {xs ys r : Array Keyed} {sa na nb k m : Nat} (hz : sa + na + nb ≤ xs.size) (hk : k ≤ na) (hm : m ≤ nb) (s1 : SrtR κ xs sa (sa + na)) (s2 : SrtR κ xs (sa + na) (sa + na + nb)) (hna : k < na) (hnb : 0 < m)
    (g1 : ∀ i, i < k → κ.kle (KK κ xs (sa + i)) (KK κ xs (sa + na))) (g3 : ∀ i, m ≤ i → i < nb → κ.kle (KK κ xs (sa + na - 1)) (KK κ xs (sa + na + i)))
    (hr : Dn κ ((xs.extract (sa + k) (sa + na)).toList ++ (xs.extract (sa + na) (sa + na + m)).toList) r.toList) (hy : ys.toList = (xs.extract 0 (sa + k)).toList ++ r.toList ++ (xs.extract (sa + na + m) xs.size).toList) :
    ys.Perm xs ∧ SrtR κ ys sa (sa + na + nb) ∧ ∀ q, q < sa ∨ sa + na + nb ≤ q → KK κ ys q = KK κ xs q := by
  have c1 := ext_cat (xs := xs) (i := sa + k) (j := sa + na) (k := sa + na + m) (by lia) (by lia) (by lia)
  have ex := cut3 (xs := xs) (i := sa + k) (j := sa + na + m) (by lia) (by lia)
  have p1 : ys.Perm xs := by
    refine Array.perm_iff_toList_perm.mpr ?_
    rw [hy, ex, c1]
    exact List.Perm.append_right _ (List.Perm.append_left _ hr.1)
  have e1 := ext_cat (xs := xs) (i := 0) (j := sa) (k := sa + k) (by lia) (by lia) (by lia)
  have e2 := ext_cat (xs := xs) (i := sa + na + m) (j := sa + na + nb) (k := xs.size) (by lia) (by lia) (by lia)
  have hy2 : ys.toList = (xs.extract 0 sa).toList ++ ((xs.extract sa (sa + k)).toList ++ r.toList ++ (xs.extract (sa + na + m) (sa + na + nb)).toList) ++ (xs.extract (sa + na + nb) xs.size).toList := by
    rw [hy, e1, e2]
    simp only [List.append_assoc]
  have lr : r.toList.length = (na - k) + m := by
    rw [hr.1.length_eq, List.length_append, ext_len (by lia), ext_len (by lia)]
    lia
  have lm : ((xs.extract sa (sa + k)).toList ++ r.toList ++ (xs.extract (sa + na + m) (sa + na + nb)).toList).length = na + nb := by
    rw [List.length_append, List.length_append, lr, ext_len (by lia), ext_len (by lia)]
    lia
  have l0 : (xs.extract 0 sa).toList.length = sa := by rw [ext_len (by lia)]; lia
  have hx2 := cut3 (xs := xs) (i := sa) (j := sa + na + nb) (by lia) (by lia)
  refine ⟨p1, ?_, fun q hq => KK_out hx2 hy2 (by rw [lm, ext_len (by lia)]; lia) (by rw [l0, ext_len (by lia)]; lia)⟩
  have key : SL κ ((xs.extract sa (sa + k)).toList ++ r.toList ++ (xs.extract (sa + na + m) (sa + na + nb)).toList) := by
    have mr : ∀ x ∈ r.toList, (∃ j, sa + k ≤ j ∧ j < sa + na ∧ KK κ xs j = kx κ x) ∨ ∃ j, sa + na ≤ j ∧ j < sa + na + m ∧ KK κ xs j = kx κ x := fun x hx => by
      rcases List.mem_append.mp (hr.1.mem_iff.mp hx) with h | h
      · exact .inl (mem_ext (by lia) h)
      · exact .inr (mem_ext (by lia) h)
    refine sl_app.mpr ⟨sl_app.mpr ⟨sl_ext (by lia) fun p q h1 h2 h3 => s1 p q h1 h2 (by lia), hr.2, fun x hx y hy => ?_⟩, sl_ext (by lia) fun p q h1 h2 h3 => s2 p q (by lia) h2 h3, fun x hx y hy => ?_⟩
    · obtain ⟨i, i1, i2, i3⟩ := mem_ext (κ := κ) (by lia) hx
      have g := g1 (i - sa) (by lia)
      rw [show sa + (i - sa) = i by lia] at g
      unfold lek
      rcases mr y hy with ⟨j, j1, j2, j3⟩ | ⟨j, j1, j2, j3⟩
      · rw [← i3, ← j3]; exact s1 i j i1 (by lia) j2
      · rw [← i3, ← j3]; exact KeyOrd.kle_trans g (s2 _ j (Nat.le_refl _) j1 (by lia))
    · obtain ⟨j, j1, j2, j3⟩ := mem_ext (κ := κ) (by lia) hy
      have g := g3 (j - (sa + na)) (by lia) (by lia)
      rw [show sa + na + (j - (sa + na)) = j by lia] at g
      unfold lek
      rcases List.mem_append.mp hx with hx | hx
      · obtain ⟨i, i1, i2, i3⟩ := mem_ext (κ := κ) (by lia) hx
        rw [← i3, ← j3]; exact KeyOrd.kle_trans (s1 i (sa + na - 1) i1 (by lia) (by lia)) g
      · rcases mr x hx with ⟨i, i1, i2, i3⟩ | ⟨i, i1, i2, i3⟩
        · rw [← i3, ← j3]; exact KeyOrd.kle_trans (s1 i (sa + na - 1) (by lia) (by lia) (by lia)) g
        · rw [← i3, ← j3]; exact s2 i j i1 (by lia) (by lia)
  have := srt_mid hy2 key
  rw [l0, lm] at this
  rwa [show sa + (na + nb) = sa + na + nb by lia] at this
end
section
variable {prog : Program} {w : World} {A : Around} {E : Value → Shared → Prop} {s : Shared} {a₀ : Array Keyed} {κ : KeyKind} {kd : SortKind}
abbrev pend2 (p : Array (Nat × Nat × Nat)) (i sa n pw : Nat) : Array (Nat × Nat × Nat) := (p.setIfInBounds i (sa, n, pw)).eraseIdxIfInBounds (i + 1)
theorem wp_set {st st1 : SortSt} {Q : PUnit → SortSt → Prop} (h : Q ⟨⟩ st1) : wpS (model prog w) A E s (set st1 : StateT SortSt Sem PUnit) Q st := by
  unfold wpS
  rw [StateT.run_set]
  exact wpAny_pure ⟨rfl, h⟩
theorem wp_at {st : SortSt} {i sa na pw nb pw2 : Nat} {Q : Bool → SortSt → Prop} (hO : LtOk prog w A E s κ kd) (h0 : KeysOf κ a₀) (hB : SB kd a₀ st) (q1 : (pendingOf st)[i]? = some (sa, na, pw)) (q2 : (pendingOf st)[i + 1]? = some (sa + na, nb, pw2))
    (hz : sa + na + nb ≤ a₀.size) (h1 : 0 < na) (h2 : 0 < nb) (s1 : SrtR κ (arrOf st) sa (sa + na)) (s2 : SrtR κ (arrOf st) (sa + na) (sa + na + nb))
    (h : ∀ st', SB kd a₀ st' → pendingOf st' = pend2 (pendingOf st) i sa (na + nb) pw → SrtR κ (arrOf st') sa (sa + na + nb) → (∀ q, q < sa ∨ sa + na + nb ≤ q → KK κ (arrOf st') q = KK κ (arrOf st) q) → Q true st') :
    wpS (model prog w) A E s (mergeAt' i) Q st := by
  have ks := keys_of h0 hB.perm
  have hz' : sa + na + nb ≤ (arrOf st).size := by rw [hB.size]; exact hz
  have zA : sa + na ≤ (arrOf st).size := by lia
  obtain ⟨y, ey, ky, _⟩ := key_at ks (i := sa + na) (by lia)
  obtain ⟨x, ex, kx', _⟩ := key_at ks (i := sa + na - 1) (by lia)
  unfold mergeAt'
  refine wpS_bind (wpS_get ?_)
  rw [show ((pendingOf st)[i]?, (pendingOf st)[i + 1]?) = (some (sa, na, pw), some (sa + na, nb, pw2)) by rw [q1, q2]]
  dsimp only
  refine wpS_bind (wp_set (wpS_bind (wp_elem ey (wpS_bind (wp_gal hO hB.kind ks ky zA h1 s1 fun k k1 k2 k3 => ?_)))))
  have k2' : ∀ i, i < k → κ.kle (KK κ (arrOf st) (sa + i)) (KK κ (arrOf st) (sa + na)) := fun i hi => by simpa [bey, KeyOrd.kle] using k2 i hi
  have k3' : ∀ i, k ≤ i → i < na → κ.klt (KK κ (arrOf st) (sa + na)) (KK κ (arrOf st) (sa + i)) := fun i i1 i2 => by simpa [bey, KeyOrd.klt] using k3 i i1 i2
  -- both are in order as they stand
  have whole : κ.kle (KK κ (arrOf st) (sa + na - 1)) (KK κ (arrOf st) (sa + na)) → SrtR κ (arrOf st) sa (sa + na + nb) := fun hh p q p1 p2 p3 => by
    by_cases c1 : q < sa + na
    · exact s1 p q p1 p2 c1
    by_cases c2 : sa + na ≤ p
    · exact s2 p q c2 p2 p3
    exact KeyOrd.kle_trans (s1 p (sa + na - 1) p1 (by lia) (by lia)) (KeyOrd.kle_trans hh (s2 (sa + na) q (Nat.le_refl _) (by lia) p3))
  dsimp only
  by_cases c1 : na - k = 0
  · rw [if_pos (by simpa using c1)]
    refine wpS_pure (h _ ⟨hB.perm, hB.kind, hB.failed⟩ rfl (whole ?_) fun _ _ => rfl)
    have := k2' (na - 1) (by lia)
    rwa [show sa + (na - 1) = sa + na - 1 by lia] at this
  rw [if_neg (by simpa using c1)]
  rw [show sa + k + (na - k) - 1 = sa + na - 1 by lia]
  refine wpS_bind (wp_elem ex (wpS_bind (wp_gal hO hB.kind ks kx' hz' (by lia) s2 fun m m1 m2 m3 => ?_)))
  have m2' : ∀ i, i < m → κ.kle (KK κ (arrOf st) (sa + na + i)) (KK κ (arrOf st) (sa + na - 1)) := fun i hi => KeyOrd.kle_of_klt (by simpa [bey, KeyOrd.klt] using m2 i hi)
  have m3' : ∀ i, m ≤ i → i < nb → κ.kle (KK κ (arrOf st) (sa + na - 1)) (KK κ (arrOf st) (sa + na + i)) := fun i i1 i2 => by simpa [bey, KeyOrd.kle] using m3 i i1 i2
  dsimp only
  by_cases c2 : m = 0
  · rw [if_pos (by simpa using c2)]
    refine wpS_pure (h _ ⟨hB.perm, hB.kind, hB.failed⟩ rfl (whole ?_) fun _ _ => rfl)
    exact m3' 0 (by lia) h2
  rw [if_neg (by simpa using c2)]
  have zx := ext_size (xs := arrOf st) (i := sa + k) (n := sa + na) (by lia)
  have zy := ext_size (xs := arrOf st) (i := sa + na) (n := sa + na + m) (by lia)
  have zB : sa + na + m ≤ (arrOf st).size := by lia
  have nx : 0 < ((arrOf st).extract (sa + k) (sa + na)).size := by lia
  have ny : 0 < ((arrOf st).extract (sa + na) (sa + na + m)).size := by lia
  have hf : κ.klt (KK κ ((arrOf st).extract (sa + na) (sa + na + m)) 0) (KK κ ((arrOf st).extract (sa + k) (sa + na)) 0) := by
    rw [KK_ext (by lia) (by lia), KK_ext (by lia) (by lia)]
    exact k3' k (Nat.le_refl _) (by lia)
  have hl : ∀ j, j < ((arrOf st).extract (sa + na) (sa + na + m)).size → κ.kle (KK κ ((arrOf st).extract (sa + na) (sa + na + m)) j) (KK κ ((arrOf st).extract (sa + k) (sa + na)) (((arrOf st).extract (sa + k) (sa + na)).size - 1)) := fun j hj => by
    rw [zy] at hj
    rw [zx, KK_ext (by lia) (by lia), KK_ext (by lia) (by lia), show sa + k + (sa + na - (sa + k) - 1) = sa + na - 1 by lia]
    exact m2' j (by lia)
  have fin : ∀ (r : Array Keyed) (st1 st2 : SortSt), Dn κ (((arrOf st).extract (sa + k) (sa + na)).toList ++ ((arrOf st).extract (sa + na) (sa + na + m)).toList) r.toList → kindOf st1 = kindOf st → failedOf st1 = failedOf st → arrOf st1 = arrOf st → pendingOf st1 = pend2 (pendingOf st) i sa (na + nb) pw → Sm st1 st2 →
      Q (failedOf st2).isNone (setArr st2 (r.toList.zipIdx.foldl (fun a x => a.setIfInBounds (sa + k + x.2) x.1) (arrOf st2))) := fun r st1 st2 hr e1 e2 e3 e4 hS => by
    have lr : r.toList.length = (na - k) + m := by
      rw [hr.1.length_eq, List.length_append, ext_len (by lia), ext_len (by lia)]
      lia
    have e5 : arrOf st2 = arrOf st := hS.1.trans e3
    have hy := put_at (l := r.toList) (n := sa + k) (j := 0) (cut3 (xs := arrOf st) (i := sa + k) (j := sa + na + m) (by lia) (by lia)) (by rw [ext_len (by lia)]; lia) (by rw [lr, ext_len (by lia)]; lia)
    obtain ⟨p1, p2, p3⟩ := merged hz' k1 m1 s1 s2 (by lia) (by lia) k2' m3' hr hy
    have ef : (failedOf st2).isNone = true := by rw [hS.2.2.2, e2, hB.failed]; rfl
    rw [ef, e5]
    exact h _ ⟨p1.trans hB.perm, hS.2.2.1.trans (e1.trans hB.kind), hS.2.2.2.trans (e2.trans hB.failed)⟩ (hS.2.1.trans e4) p2 p3
  by_cases c3 : na - k ≤ m
  · rw [if_pos c3]
    refine wpS_bind (wp_lo hO hB.kind (keys_ext ks) (keys_ext ks) (ext_srt zA s1 (by lia) (by lia)) (ext_srt zB s2 (by lia) (by lia)) nx ny hf hl fun r st2 hr hS => ?_)
    exact wpS_bind (wpS_modify (wpS_bind (wpS_get (wpS_pure (fin r (SortSt.mk' (kindOf st) (arrOf st) (pend2 (pendingOf st) i sa (na + nb) pw) (gallopOf st) (failedOf st)) st2 hr rfl rfl rfl rfl hS)))))
  · rw [if_neg c3]
    refine wpS_bind (wp_hi hO hB.kind (keys_ext ks) (keys_ext ks) (ext_srt zA s1 (by lia) (by lia)) (ext_srt zB s2 (by lia) (by lia)) nx ny hf hl fun r st2 hr hS => ?_)
    exact wpS_bind (wpS_modify (wpS_bind (wpS_get (wpS_pure (fin r (SortSt.mk' (kindOf st) (arrOf st) (pend2 (pendingOf st) i sa (na + nb) pw) (gallopOf st) (failedOf st)) st2 hr rfl rfl rfl rfl hS)))))
end
end TS

set_option autoImplicit false
set_option maxHeartbeats 4000000
set_option linter.all false
namespace TS
open PySem PyProof.Rows
abbrev Pn := Nat × Nat × Nat
section
variable {κ : KeyKind}
/-- runs, one behind another, each in order -/
def Ch (κ : KeyKind) (xs : Array Keyed) : Nat → List Pn → Nat → Prop
  | b, [], e => b = e
  | b, (a, n, _) :: r, e => a = b ∧ 0 < n ∧ SrtR κ xs b (b + n) ∧ Ch κ xs (b + n) r e
theorem Ch.le {xs : Array Keyed} : ∀ {l : List Pn} {b e : Nat}, Ch κ xs b l e → b + l.length ≤ e
  | [], b, e, h => by unfold Ch at h; simp; lia
  | (a, n, w) :: r, b, e, h => by
    unfold Ch at h
    obtain ⟨_, h2, _, h4⟩ := h
    have := h4.le
    rw [List.length_cons]
    lia
theorem Ch.app {xs : Array Keyed} : ∀ {l m : List Pn} {b e : Nat}, Ch κ xs b (l ++ m) e ↔ ∃ c, Ch κ xs b l c ∧ Ch κ xs c m e
  | [], m, b, e => ⟨fun h => ⟨b, rfl, h⟩, fun ⟨c, h1, h2⟩ => by unfold Ch at h1; subst h1; exact h2⟩
  | (a, n, w) :: r, m, b, e => by
    have ih := @Ch.app xs r m (b + n) e
    constructor
    · rintro ⟨h1, h2, h3, h4⟩
      obtain ⟨c, h4, h5⟩ := ih.mp h4
      exact ⟨c, ⟨h1, h2, h3, h4⟩, h5⟩
    · rintro ⟨c, ⟨h1, h2, h3, h4⟩, h5⟩
      exact ⟨h1, h2, h3, ih.mpr ⟨c, h4, h5⟩⟩
theorem Ch.keep {xs ys : Array Keyed} : ∀ {l : List Pn} {b e : Nat}, Ch κ xs b l e → (∀ q, b ≤ q → q < e → KK κ ys q = KK κ xs q) → Ch κ ys b l e
  | [], b, e, h, _ => h
  | (a, n, w) :: r, b, e, h, k => by
    unfold Ch at h ⊢
    obtain ⟨h1, h2, h3, h4⟩ := h
    have := h4.le
    refine ⟨h1, h2, fun p q p1 p2 p3 => ?_, h4.keep fun q q1 q2 => k q (by lia) q2⟩
    rw [k p (by lia) (by lia), k q (by lia) (by lia)]
    exact h3 p q p1 p2 p3
theorem Ch.proj {xs : Array Keyed} : ∀ {l m : List Pn} {b e : Nat}, Ch κ xs b l e → m.map (fun t => (t.1, t.2.1)) = l.map (fun t => (t.1, t.2.1)) → Ch κ xs b m e
  | [], [], b, e, h, _ => h
  | (a, n, w) :: r, (a', n', w') :: r', b, e, h, k => by
    rw [List.map_cons, List.map_cons] at k
    injection k with k1 k2
    have k3 : a' = a := (Prod.mk.inj k1).1
    have k4 : n' = n := (Prod.mk.inj k1).2
    subst k3 k4
    unfold Ch at h ⊢
    exact ⟨h.1, h.2.1, h.2.2.1, h.2.2.2.proj k2⟩
  | [], _ :: _, _, _, _, k => by simp at k
  | _ :: _, [], _, _, _, k => by simp at k
theorem two_at {p : Array Pn} {i : Nat} {u v : Pn} (h1 : p[i]? = some u) (h2 : p[i + 1]? = some v) : ∃ l m, p.toList = l ++ u :: v :: m ∧ l.length = i := by
  obtain ⟨a1, a2⟩ := Array.getElem?_eq_some_iff.mp h1
  obtain ⟨b1, b2⟩ := Array.getElem?_eq_some_iff.mp h2
  refine ⟨p.toList.take i, p.toList.drop (i + 2), ?_, by simp; lia⟩
  conv => lhs; rw [← List.take_append_drop i p.toList]
  rw [List.drop_eq_getElem_cons (by simpa using a1), List.drop_eq_getElem_cons (by simpa using b1)]
  simp [a2, b2]
theorem pend2_list {p : Array Pn} {l m : List Pn} {i sa n pw : Nat} {u v : Pn} (h : p.toList = l ++ u :: v :: m) (hl : l.length = i) : (pend2 p i sa n pw).toList = l ++ (sa, n, pw) :: m := by
  have hs : i + 1 < p.size := by
    rw [← Array.length_toList, h, List.length_append, List.length_cons, List.length_cons]
    lia
  unfold pend2
  rw [Array.eraseIdxIfInBounds, dif_pos (by simpa using hs), Array.toList_eraseIdx, Array.toList_setIfInBounds, h, ← hl]
  simp [List.eraseIdx_append_of_length_le]
end
section
variable {prog : Program} {w : World} {A : Around} {E : Value → Shared → Prop} {s : Shared} {a₀ : Array Keyed} {κ : KeyKind} {kd : SortKind}
/-- two runs of the row are merged -/
theorem wp_chain {st : SortSt} {i lo : Nat} {Q : Bool → SortSt → Prop} (hO : LtOk prog w A E s κ kd) (h0 : KeysOf κ a₀) (hB : SB kd a₀ st) (hc : Ch κ (arrOf st) 0 (pendingOf st).toList lo) (hlo : lo ≤ a₀.size) (hi : i + 1 < (pendingOf st).size)
    (h : ∀ st', SB kd a₀ st' → Ch κ (arrOf st') 0 (pendingOf st').toList lo → (pendingOf st').size + 1 = (pendingOf st).size → (∀ q, lo ≤ q → KK κ (arrOf st') q = KK κ (arrOf st) q) → Q true st') : wpS (model prog w) A E s (mergeAt' i) Q st := by
  obtain ⟨⟨sa, na, pw⟩, e1⟩ : ∃ u, (pendingOf st)[i]? = some u := ⟨_, getElem?_pos _ i (by lia)⟩
  obtain ⟨⟨sb, nb, pw2⟩, e2⟩ : ∃ u, (pendingOf st)[i + 1]? = some u := ⟨_, getElem?_pos _ (i + 1) hi⟩
  obtain ⟨l, m, el, hl⟩ := two_at e1 e2
  rw [el] at hc
  obtain ⟨c, hc1, hc2⟩ := Ch.app.mp hc
  unfold Ch at hc2
  obtain ⟨f1, f2, f3, hc2⟩ := hc2
  unfold Ch at hc2
  obtain ⟨f4, f5, f6, hc3⟩ := hc2
  subst f1 f4
  have z := hc3.le
  have z1 := hc1.le
  refine wp_at hO h0 hB e1 e2 (by lia) f2 f5 f3 f6 fun st' b1 b2 b3 b4 => h st' b1 ?_ ?_ fun q hq => b4 q (.inr (by lia))
  · rw [b2, pend2_list el hl]
    refine Ch.app.mpr ⟨sa, hc1.keep fun q q1 q2 => b4 q (.inl q2), ?_⟩
    unfold Ch
    rw [← Nat.add_assoc]
    exact ⟨rfl, by lia, b3, hc3.keep fun q q1 q2 => b4 q (.inr q1)⟩
  · have n1 : (pendingOf st').size = l.length + 1 + m.length := by
      rw [b2, ← Array.length_toList, pend2_list el hl, List.length_append, List.length_cons]
      lia
    have n2 : (pendingOf st).size = l.length + 2 + m.length := by
      rw [← Array.length_toList, el, List.length_append, List.length_cons, List.length_cons]
      lia
    lia
theorem mod_proj {l : List Pn} {i pw : Nat} : (l.modify i fun x => (x.1, x.2.1, pw)).map (fun t => (t.1, t.2.1)) = l.map (fun t => (t.1, t.2.1)) := by
  refine List.ext_getElem? fun j => ?_
  rw [List.getElem?_map, List.getElem?_map, List.getElem?_modify]
  cases l[j]? with
  | none => rfl
  | some x =>
    by_cases h : i = j
    · simp [h]
    · simp [h]
/-- the whole sort -/
theorem wp_runs {st : SortSt} {Q : Unit → SortSt → Prop} (hO : LtOk prog w A E s κ kd) (h0 : KeysOf κ a₀) (hB : SB kd a₀ st) (hp : pendingOf st = #[]) (h2 : 0 < a₀.size)
    (h : ∀ st', SB kd a₀ st' → SrtR κ (arrOf st') 0 a₀.size → Q () st') : wpS (model prog w) A E s sortRuns' Q st := by
  rw [sortRuns'_eq]
  refine wpS_bind (wpS_get ?_)
  dsimp only
  rw [show (arrOf st).size = a₀.size from hB.size]
  -- behind a run that was found
  have psh : ∀ (st' : SortSt) (lo n : Nat), 0 < n → Ch κ (arrOf st') 0 (pendingOf st').toList lo → SrtR κ (arrOf st') lo (lo + n) → Ch κ (arrOf st') 0 ((pendingOf st').push (lo, n, 0)).toList (lo + n) := fun st' lo n b4 c2 c3 => by
    rw [Array.toList_push]
    exact Ch.app.mpr ⟨lo, c2, by unfold Ch; exact ⟨rfl, b4, c3, rfl⟩⟩
  have next : ∀ (st1 : SortSt) (lo n pw : Nat) (R : ForInStep (Option Unit × Nat) → SortSt → Prop)
      (f : Nat → Option Unit × Unit → StateT SortSt Sem (ForInStep (Option Unit × Unit))) (K1 : Option Unit × Unit → StateT SortSt Sem (ForInStep (Option Unit × Nat))),
      SB kd a₀ st1 → Ch κ (arrOf st1) 0 (pendingOf st1).toList lo → lo + n ≤ a₀.size → 0 < n → SrtR κ (arrOf st1) lo (lo + n) →
      (∀ st', SB kd a₀ st' → Ch κ (arrOf st') 0 (pendingOf st').toList (lo + n) → R (.yield (none, lo + n)) st') →
      (∀ x, ∃ g : SortSt → StateT SortSt Sem (ForInStep (Option Unit × Unit)), f x (none, ()) = (get >>= g) ∧
        (∀ z, (if (pendingOf z).size > 1 then (pendingOf z)[(pendingOf z).size - 2]? else none) = none → g z = pure (ForInStep.done (none, ()))) ∧
        (∀ z u1 u2 older, (if (pendingOf z).size > 1 then (pendingOf z)[(pendingOf z).size - 2]? else none) = some (u1, u2, older) → g z = if older ≤ pw then pure (ForInStep.done (none, ())) else (mergeAt' ((pendingOf z).size - 2) >>= fun v => if (!v) = true then pure (ForInStep.done (some (), ())) else pure (ForInStep.yield (none, ()))))) →
      K1 (none, ()) = (do
          modify fun s => setPending s ((pendingOf s).modify ((pendingOf s).size - 1) fun x => (x.1, x.2.1, pw))
          modify fun s => setPending s ((pendingOf s).push (lo, n, 0))
          pure (ForInStep.yield (none, lo + n))) →
      wpS (model prog w) A E s (forIn [0:a₀.size] (none, ()) f >>= K1) R st1 := by
    intro st1 lo n pw R f K1 b1 b2 b3 b4 b5 hR k4 k5
    refine wpS_bind (wpS_mono (wpS_forRange (I := fun x c st2 => c = (none, ()) ∧ SB kd a₀ st2 ∧ Ch κ (arrOf st2) 0 (pendingOf st2).toList lo ∧ SrtR κ (arrOf st2) lo (lo + n))
      (Q := fun c st2 => c = (none, ()) ∧ SB kd a₀ st2 ∧ Ch κ (arrOf st2) 0 (pendingOf st2).toList lo ∧ SrtR κ (arrOf st2) lo (lo + n)) ?_ ?_ ⟨rfl, b1, b2, b5⟩) ?_)
    · rintro x c st2 _ hx ⟨rfl, c1, c2, c3⟩
      obtain ⟨g, g1, g2, g3⟩ := k4 x
      rw [g1]
      refine wpS_bind (wpS_get ?_)
      by_cases hs : (pendingOf st2).size > 1
      · obtain ⟨⟨u1, u2, older⟩, eu⟩ : ∃ u, (pendingOf st2)[(pendingOf st2).size - 2]? = some u := ⟨_, getElem?_pos _ _ (by lia)⟩
        rw [g3 st2 u1 u2 older (by rw [if_pos hs, eu])]
        by_cases ho : older ≤ pw
        · rw [if_pos ho]
          exact wpS_pure ⟨rfl, c1, c2, c3⟩
        · rw [if_neg ho]
          refine wpS_bind (wp_chain hO h0 c1 c2 (by lia) (by lia) fun st3 d1 d2 d3 d4 => wpS_pure ⟨rfl, d1, d2, fun p q p1 p2 p3 => ?_⟩)
          rw [d4 p p1, d4 q (by lia)]
          exact c3 p q p1 p2 p3
      · rw [g2 st2 (by rw [if_neg hs])]
        exact wpS_pure ⟨rfl, c1, c2, c3⟩
    · rintro c st2 ⟨rfl, c1, c2, c3⟩
      exact ⟨rfl, c1, c2, c3⟩
    · rintro c st2 ⟨rfl, c1, c2, c3⟩
      rw [k5]
      refine wpS_bind (wpS_modify (wpS_bind (wpS_modify (wpS_pure (hR _ ⟨c1.perm, c1.kind, c1.failed⟩ ?_)))))
      refine psh (setPending st2 ((pendingOf st2).modify ((pendingOf st2).size - 1) fun x => (x.1, x.2.1, pw))) lo n b4 ?_ c3
      refine Ch.proj c2 ?_
      change (((pendingOf st2).modify ((pendingOf st2).size - 1) fun x => (x.1, x.2.1, pw)).toList).map _ = _
      rw [Array.toList_modify]
      exact mod_proj
  refine wpS_bind (wpS_mono (wpS_forRange (I := fun x c st1 => ∃ lo, c = (none, lo) ∧ SB kd a₀ st1 ∧ Ch κ (arrOf st1) 0 (pendingOf st1).toList lo ∧ lo ≤ a₀.size ∧ x ≤ lo)
    (Q := fun c st1 => ∃ lo, c = (none, lo) ∧ SB kd a₀ st1 ∧ Ch κ (arrOf st1) 0 (pendingOf st1).toList a₀.size) ?_ ?_ ⟨0, rfl, hB, by rw [hp]; rfl, Nat.zero_le _, Nat.zero_le _⟩) ?_)
  · rintro x c st1 _ hx ⟨lo, rfl, b1, b2, b3, b4⟩
    dsimp only
    by_cases c1 : lo ≥ a₀.size
    · rw [if_pos c1]
      exact wpS_pure ⟨lo, rfl, b1, by rw [show a₀.size = lo by lia]; exact b2⟩
    rw [if_neg c1]
    refine wpS_bind (wp_count hO h0 (by lia) (by lia) b1 fun n st2 d1 d2 d3 d4 d5 => ?_)
    dsimp only
    have ch2 : Ch κ (arrOf st2) 0 (pendingOf st2).toList lo := by
      rw [d2.1]
      exact b2.keep fun q _ q2 => d2.2 q q2
    by_cases c2 : n < minRun' a₀.size a₀.size 0
    · rw [if_pos c2]
      refine wpS_bind (wp_rule (wpS_bind (wp_bin hO h0 (n := min (a₀.size - lo) (minRun' a₀.size a₀.size 0)) (by lia) (by lia) d1 d5 fun st3 e1 e2 e3 e4 => ?_)))
      rw [if_neg (by decide)]
      have ch3 : Ch κ (arrOf st3) 0 (pendingOf st3).toList lo := by
        rw [e2]
        exact ch2.keep fun q _ q2 => e3 q q2
      refine wpS_bind (wpS_get ?_)
      cases hb : (pendingOf st3).back? with
      | none =>
        exact wpS_bind (wpS_modify (wpS_pure ⟨_, rfl, ⟨e1.perm, e1.kind, e1.failed⟩, psh st3 lo _ (by lia) ch3 e4, by lia, by lia⟩))
      | some t =>
        obtain ⟨t1, t2, t3⟩ := t
        dsimp only
        refine next st3 lo _ _ _ _ _ e1 ch3 (by lia) (by lia) e4 (fun st' f1 f2 => ⟨_, rfl, f1, f2, by lia, by lia⟩) (fun x => ⟨_, rfl, fun z hz => by rw [hz], fun z u1 u2 older hz => by rw [hz]⟩) rfl
    · rw [if_neg c2]
      refine wpS_bind (wpS_get ?_)
      cases hb : (pendingOf st2).back? with
      | none =>
        exact wpS_bind (wpS_modify (wpS_pure ⟨_, rfl, ⟨d1.perm, d1.kind, d1.failed⟩, psh st2 lo _ (by lia) ch2 d5, by lia, by lia⟩))
      | some t =>
        obtain ⟨t1, t2, t3⟩ := t
        dsimp only
        refine next st2 lo _ _ _ _ _ d1 ch2 (by lia) (by lia) d5 (fun st' f1 f2 => ⟨_, rfl, f1, f2, by lia, by lia⟩) (fun x => ⟨_, rfl, fun z hz => by rw [hz], fun z u1 u2 older hz => by rw [hz]⟩) rfl
  · rintro c st1 ⟨lo, rfl, b1, b2, b3, b4⟩
    exact ⟨lo, rfl, b1, by rw [show a₀.size = lo by lia]; exact b2⟩
  · rintro c st1 ⟨lo, rfl, b1, b2⟩
    dsimp only
    have b0 := b2.le
    rw [Array.length_toList] at b0
    refine wpS_bind (wpS_mono (wpS_forRange (I := fun x c st2 => c = (none, ()) ∧ SB kd a₀ st2 ∧ Ch κ (arrOf st2) 0 (pendingOf st2).toList a₀.size ∧ (pendingOf st2).size + x ≤ a₀.size)
      (Q := fun c st2 => c = (none, ()) ∧ SB kd a₀ st2 ∧ SrtR κ (arrOf st2) 0 a₀.size) ?_ ?_ ⟨rfl, b1, b2, by lia⟩) ?_)
    · rintro x c st2 _ hx ⟨rfl, c1, c2, c3⟩
      refine wpS_bind (wpS_get ?_)
      by_cases d1 : (pendingOf st2).size ≤ 1
      · rw [if_pos d1]
        refine wpS_pure ⟨rfl, c1, ?_⟩
        rw [← Array.length_toList] at d1
        cases el : (pendingOf st2).toList with
        | nil =>
          rw [el] at c2
          unfold Ch at c2
          lia
        | cons u r =>
          rw [el] at d1 c2
          have : r = [] := List.eq_nil_of_length_eq_zero (by simpa using d1)
          subst this
          obtain ⟨u1, u2, u3⟩ := u
          unfold Ch at c2
          obtain ⟨f1, f2, f3, f4⟩ := c2
          unfold Ch at f4
          rw [← f4]
          exact f3
      · rw [if_neg d1]
        have hi : ∀ v : Bool, (if v = true then (pendingOf st2).size - 2 - 1 else (pendingOf st2).size - 2) + 1 < (pendingOf st2).size := fun v => by
          cases v
          · rw [if_neg (by decide)]; lia
          · rw [if_pos rfl]; lia
        refine wpS_bind (wp_chain hO h0 c1 c2 (Nat.le_refl _) (hi _) fun st3 e1 e2 e3 e4 => wpS_pure ⟨rfl, e1, e2, by lia⟩)
    · rintro c st2 ⟨rfl, c1, c2, c3⟩
      have := c2.le
      rw [show max 0 a₀.size = a₀.size by lia] at c3
      have e0 : (pendingOf st2).size = 0 := by lia
      rw [← Array.length_toList] at e0
      rw [List.eq_nil_of_length_eq_zero e0] at c2
      unfold Ch at c2
      lia
    · rintro c st2 ⟨rfl, c1, c2⟩
      exact wpS_pure (h st2 c1 c2)
end
end TS

set_option maxHeartbeats 4000000
set_option linter.all false
set_option maxRecDepth 100000

namespace DL
open PySem PySem.Spec PyProof.Rows L2 PySem.W

/-! ### the order of rows: lists of ints and texts -/
def ltK : Key → Key → Bool
  | .inl a, .inl b => decide (a < b)
  | .inr a, .inr b => decide (a.cps.toList < b.cps.toList)
  | .inl _, .inr _ => true
  | .inr _, .inl _ => false
theorem ltK_tri (a b : Key) : (ltK a b = true ∧ ltK b a = false ∧ a ≠ b) ∨ (a = b ∧ ltK a b = false ∧ ltK b a = false) ∨ (ltK a b = false ∧ ltK b a = true ∧ a ≠ b) := by
  cases a with
  | inl a =>
    cases b with
    | inl b =>
      unfold ltK
      simp only [decide_eq_true_eq, decide_eq_false_iff_not, ne_eq, Sum.inl.injEq]
      lia
    | inr b => exact .inl ⟨rfl, rfl, by simp⟩
  | inr a =>
    cases b with
    | inl b => exact .inr (.inr ⟨rfl, rfl, by simp⟩)
    | inr b =>
      by_cases h : a.cps.toList < b.cps.toList
      · have h2 : ¬ b.cps.toList < a.cps.toList := fun z => List.lt_irrefl _ (List.lt_trans h z)
        refine .inl ⟨decide_eq_true h, decide_eq_false h2, fun e => ?_⟩
        cases e
        exact List.lt_irrefl _ h
      · by_cases h2 : b.cps.toList < a.cps.toList
        · refine .inr (.inr ⟨decide_eq_false h, decide_eq_true h2, fun e => ?_⟩)
          cases e
          exact List.lt_irrefl _ h2
        · have e : a.cps.toList = b.cps.toList := List.le_antisymm (List.not_lt.mp h2) (List.not_lt.mp h)
          have e : a = b := by
            obtain ⟨a⟩ := a
            obtain ⟨b⟩ := b
            have : a = b := Array.toList_inj.mp e
            rw [this]
          exact .inr (.inl ⟨by rw [e], decide_eq_false h, decide_eq_false h2⟩)
theorem ltK_trans {a b c : Key} (h : ltK a b = true) (h2 : ltK b c = true) : ltK a c = true := by
  cases a with
  | inl a =>
    cases b with
    | inl b =>
      cases c with
      | inl c =>
        have h : a < b := of_decide_eq_true h
        have h2 : b < c := of_decide_eq_true h2
        exact decide_eq_true (by lia)
      | inr c => rfl
    | inr b =>
      cases c with
      | inl c => cases h2
      | inr c => rfl
  | inr a =>
    cases b with
    | inl b => cases h
    | inr b =>
      cases c with
      | inl c => cases h2
      | inr c => exact decide_eq_true (List.lt_trans (of_decide_eq_true h) (of_decide_eq_true h2))
def lexK : List Key → List Key → Bool
  | [], [] => false
  | [], _ :: _ => true
  | _ :: _, [] => false
  | a :: r, b :: s => if a = b then lexK r s else ltK a b
theorem lexK_irr : ∀ a : List Key, lexK a a = false
  | [] => rfl
  | a :: r => by unfold lexK; rw [if_pos rfl]; exact lexK_irr r
theorem lexK_total : ∀ a b : List Key, lexK a b = false → lexK b a = false → a = b
  | [], [], _, _ => rfl
  | [], _ :: _, h, _ => by cases h
  | _ :: _, [], _, h => by cases h
  | a :: r, b :: s, h, h2 => by
    unfold lexK at h h2
    rcases ltK_tri a b with ⟨t1, t2, t3⟩ | ⟨rfl, t2, t3⟩ | ⟨t1, t2, t3⟩
    · rw [if_neg t3, t1] at h; cases h
    · rw [if_pos rfl] at h h2
      rw [lexK_total r s h h2]
    · rw [if_neg (Ne.symm t3), t2] at h2; cases h2
theorem lexK_trans : ∀ a b c : List Key, lexK a b = true → lexK b c = true → lexK a c = true
  | [], [], _, h, _ => by cases h
  | [], _ :: _, [], _, h => by cases h
  | [], _ :: _, _ :: _, _, _ => rfl
  | _ :: _, [], _, h, _ => by cases h
  | _ :: _, _ :: _, [], _, h => by cases h
  | a :: r, b :: s, c :: t, h, h2 => by
    unfold lexK at h h2 ⊢
    rcases ltK_tri a b with ⟨t1, t2, t3⟩ | ⟨rfl, t2, t3⟩ | ⟨t1, t2, t3⟩
    · rcases ltK_tri b c with ⟨u1, u2, u3⟩ | ⟨rfl, u2, u3⟩ | ⟨u1, u2, u3⟩
      · have h3 := ltK_trans t1 u1
        rw [if_neg fun e => ?_]
        · exact h3
        · subst e
          rcases ltK_tri a a with ⟨_, _, z⟩ | ⟨_, z, _⟩ | ⟨_, _, z⟩
          · exact z rfl
          · rw [z] at h3; cases h3
          · exact z rfl
      · rw [if_neg t3]; exact t1
      · rw [if_neg u3, u1] at h2; cases h2
    · rw [if_pos rfl] at h
      rcases ltK_tri a c with ⟨u1, u2, u3⟩ | ⟨rfl, u2, u3⟩ | ⟨u1, u2, u3⟩
      · rw [if_neg u3]; exact u1
      · rw [if_pos rfl] at h2 ⊢
        exact lexK_trans r s t h h2
      · rw [if_neg u3, u1] at h2; cases h2
    · rw [if_neg t3, t1] at h; cases h
theorem lexK_neg (a b c : List Key) (h : lexK a c = true) : lexK a b = true ∨ lexK b c = true := by
  cases h1 : lexK a b with
  | true => exact .inl rfl
  | false =>
    right
    cases h2 : lexK b a with
    | true => exact lexK_trans b a c h2 h
    | false => rw [← lexK_total a b h1 h2]; exact h
/-! ### rows as they lie -/
def atomV : V → Option Key
  | .int i => some (.inl i)
  | .str x => some (.inr x)
  | _ => none
def keyV : List V → List Key
  | [] => []
  | v :: r => match atomV v with
    | some k => k :: keyV r
    | none => []
def sigV : V → Option Nat
  | .int _ => some 0
  | .str _ => some 1
  | .non => some 2
  | .bl _ => some 2
  | .ref _ => some 2
  | _ => none
def sigs : List V → Option (List Nat)
  | [] => some []
  | v :: r => match sigV v, sigs r with
    | some k, some ks => some (k :: ks)
    | _, _ => none
section
variable {prog : Program} {w : World} {A : Around} {E : Value → Shared → Prop} {s : Shared}
theorem lex_same {o : Bool} {Q : Bool → Shared → Prop} : ∀ {xs : List V} {us ws : List Value} (i : Nat) (l : List Nat), sigs xs = some l → Vals xs us → Vals xs ws → Q false s → KatLex prog w A o false Q (us.zip ws) i s
  | [], _, _, i, _, _, .nil, .nil, q => kat_nil q
  | x :: xs, _, _, i, l, h, .cons (b := u) rx r1, .cons (b := v) ry r2, q => by
    unfold sigs at h
    split at h
    · rename_i k ks e1 e2
      have rest := lex_same (o := o) (i + 1) ks e2 r1 r2 q
      refine kat_cons ?_
      cases x with
      | int a =>
        obtain ⟨t, rfl⟩ := rx
        obtain ⟨t', rfl⟩ := ry
        refine wpAny_eqBool_int ?_
        rw [show (a == a) = true by simp]
        exact kat_yes rest
      | str a =>
        obtain ⟨t, rfl⟩ := rx
        obtain ⟨t', rfl⟩ := ry
        refine PyProof.Rows.eqBool_str ?_
        rw [show (a == a) = true by simp]
        exact kat_yes rest
      | non => cases rx; cases ry; exact SeqAt.EqAt.same _ prog w _ _ (kat_yes rest)
      | bl b => cases rx; cases ry; exact SeqAt.EqAt.same _ prog w _ _ (kat_yes rest)
      | ref b => cases rx; cases ry; exact SeqAt.EqAt.same _ prog w _ _ (kat_yes rest)
      | _ => cases e1
    · cases h
theorem lex_ok {o : Bool} {Q : Bool → Shared → Prop} : ∀ {xs ys : List V} {us ws : List Value} (i : Nat) (l : List Nat), sigs xs = some l → sigs ys = some l → (keyV xs = keyV ys → xs = ys) → Vals xs us → Vals ys ws → Q (lexK (keyV xs) (keyV ys)) s → KatLex prog w A o false Q (us.zip ws) i s
  | [], [], _, _, i, _, _, _, _, .nil, .nil, q => kat_nil q
  | [], y :: ys, _, _, i, l, h, h2, _, _, _, _ => by
    unfold sigs at h h2
    cases h
    split at h2 <;> cases h2
  | x :: xs, [], _, _, i, l, h, h2, _, _, _, _ => by
    unfold sigs at h h2
    cases h2
    split at h <;> cases h
  | x :: xs, y :: ys, _, _, i, l, h, h2, hk, .cons (b := u) rx r1, .cons (b := v) ry r2, q => by
    have hx := h
    have hy := h2
    unfold sigs at h h2
    split at h
    case h_2 => cases h
    rename_i k ks e1 e2
    split at h2
    case h_2 => cases h2
    rename_i k' ks' e1' e2'
    cases h
    cases h2
    -- a text or an int
    have step : ∀ (a b : Key) (c d : Bool), atomV x = some a → atomV y = some b → c = decide (a = b) → d = ltK a b → (∀ Q' : Bool → Shared → Prop, Q' c s → wpAny (model prog w) A (eqBool u v) Q' (fun _ _ => False) s) → (∀ (o' : Bool) (Q' : Bool → Shared → Prop), Q' d s → wpAny (model prog w) A (oneLt' o' u v) Q' (fun _ _ => False) s) → KatLex prog w A o false Q ((u, v) :: _) i s := fun a b c d ea eb hc hd w1 w2 => by
      have k1 : keyV (x :: xs) = a :: keyV xs := by show (match atomV x with | some k => k :: keyV xs | none => []) = _; rw [ea]
      have k2 : keyV (y :: ys) = b :: keyV ys := by show (match atomV y with | some k => k :: keyV ys | none => []) = _; rw [eb]
      rw [k1, k2] at q hk
      unfold lexK at q
      refine kat_cons (w1 _ ?_)
      subst hc hd
      by_cases e : a = b
      · rw [decide_eq_true e]
        rw [if_pos e] at q
        refine kat_yes (lex_ok (i + 1) ks e2 e2' (fun z => ?_) r1 r2 q)
        have := hk (by rw [e, z])
        injection this
      · rw [decide_eq_false e]
        rw [if_neg e] at q
        exact kat_no (w2 _ _ q)
    have other : atomV x = none → atomV y = none → KatLex prog w A o false Q ((u, v) :: _) i s := fun ea eb => by
      have k1 : keyV (x :: xs) = [] := by show (match atomV x with | some k => k :: keyV xs | none => []) = _; rw [ea]
      have k2 : keyV (y :: ys) = [] := by show (match atomV y with | some k => k :: keyV ys | none => []) = _; rw [eb]
      have e := hk (by rw [k1, k2])
      injection e with e3 e4
      subst e3 e4
      rw [lexK_irr] at q
      exact lex_same (us := u :: _) (ws := v :: _) i _ hx (.cons rx r1) (.cons ry r2) q
    cases x with
    | int a =>
      cases y with
      | int b =>
        obtain ⟨t, rfl⟩ := rx
        obtain ⟨t', rfl⟩ := ry
        exact step (.inl a) (.inl b) (a == b) (decide (a < b)) rfl rfl (by by_cases e : a = b <;> simp [e]) rfl (fun Q' z => wpAny_eqBool_int z) fun o' Q' z => by
          cases o' with
          | true => exact oneLt_int z
          | false => exact kat_one _ _ (PyProof.Rows.lt_int z)
      | _ => simp [sigV] at e1 e1' <;> lia
    | str a =>
      cases y with
      | str b =>
        obtain ⟨t, rfl⟩ := rx
        obtain ⟨t', rfl⟩ := ry
        exact step (.inr a) (.inr b) (a == b) (decide (a.cps.toList < b.cps.toList)) rfl rfl (by by_cases e : a = b <;> simp [e]) rfl (fun Q' z => PyProof.Rows.eqBool_str z) fun o' Q' z => by
          cases o' with
          | true => exact PyProof.Rows.oneLt_str z
          | false => exact kat_one _ _ (PyProof.Rows.lt_str z)
      | _ => simp [sigV] at e1 e1' <;> lia
    | non => cases y <;> first | exact other rfl rfl | (simp [sigV] at e1 e1' <;> lia)
    | bl b => cases y <;> first | exact other rfl rfl | (simp [sigV] at e1 e1' <;> lia)
    | ref b => cases y <;> first | exact other rfl rfl | (simp [sigV] at e1 e1' <;> lia)
    | _ => cases e1
end
end DL

set_option maxHeartbeats 4000000
set_option linter.all false
set_option maxRecDepth 100000

namespace DL
open PySem PySem.Spec PyProof.Rows L2 PySem.W

section
variable {prog : Program} {w : World} {A : Around} {E : Value → Shared → Prop} {s : Shared}
theorem ltok_of {κ : KeyKind} {kd : SortKind} (h : ∀ (x y : Value) (a b : κ.α) (Q : Bool → Shared → Prop) (E' : Value → Shared → Prop), κ.keyOf x = some a → κ.keyOf y = some b → Q (κ.blt a b) s → wpAny (model prog w) A (keyLt' kd x y) Q E' s) : TS.LtOk prog w A E s κ kd := by
  intro x y a b st Q ha hb hk q
  rw [lt'_eq]
  refine wpS_bind (wpS_get ?_)
  rw [hk]
  exact wpS_bind (wpS_lift (wpAny_attempt (h x.1 y.1 a b _ _ ha hb ⟨rfl, wpS_pure q⟩)))
end
def vkey (H : Hp) : V → List Key
  | .ref a => (match H a with
    | some (.tup y) => keyV y
    | _ => [])
  | _ => []
structure CndV (ys : List (List V)) : Prop where
  sig : ∃ l, (∀ y ∈ ys, sigs y = some l) ∧ (l.head? = some 0 ∨ l.head? = some 1)
  inj : ∀ x ∈ ys, ∀ y ∈ ys, keyV x = keyV y → x = y
open Classical in
noncomputable def rowKind (H : Hp) (vs : List Value) : KeyKind where
  α := List Key
  blt := lexK
  irrefl := lexK_irr
  trans := lexK_trans
  negTrans := lexK_neg
  total := lexK_total
  keyOf := fun v => if v ∈ vs then (match v with
    | .ref a => (match H a with
      | some (.tup y) => some (keyV y)
      | _ => none)
    | _ => none) else none
  dflt := []
theorem rows_mem {H : Hp} : ∀ {zs : List V} {ys : List (List V)} {us : List Value}, RowsT H zs ys → Vals zs us → ∀ u ∈ us, ∃ a y, u = Value.ref a ∧ H a = some (.tup y) ∧ y ∈ ys
  | _, _, _, .nil, .nil, u, h => by cases h
  | _, _, _, .cons q r, .cons v t, u, h => by
    rcases List.mem_cons.mp h with rfl | h
    · obtain ⟨a, rfl, e⟩ := q
      cases v
      exact ⟨a, _, rfl, e, by simp⟩
    · obtain ⟨a, y, e1, e2, e3⟩ := rows_mem r t u h
      exact ⟨a, y, e1, e2, by simp [e3]⟩
theorem rowKind_key {H : Hp} {vs : List Value} {v : Value} {k : List Key} (h : (rowKind H vs).keyOf v = some k) : v ∈ vs ∧ ∃ a y, v = Value.ref a ∧ H a = some (.tup y) ∧ k = keyV y := by
  classical
  by_cases hv : v ∈ vs
  · refine ⟨hv, ?_⟩
    have h : (if v ∈ vs then (match v with
      | .ref a => (match H a with
        | some (.tup y) => some (keyV y)
        | _ => none)
      | _ => none) else none) = some k := by
      have h2 := h
      simp only [rowKind] at h2
      simpa [hv] using h2
    rw [if_pos hv] at h
    cases v with
    | ref a =>
      dsimp only at h
      split at h
      · rename_i y e
        cases h
        exact ⟨a, y, rfl, e, rfl⟩
      · cases h
    | _ => cases h
  · have h2 := h
    simp only [rowKind] at h2
    simp [hv] at h2
theorem rowKind_of {H : Hp} {vs : List Value} {a : Addr} {y : List V} (hv : Value.ref a ∈ vs) (e : H a = some (.tup y)) : (rowKind H vs).keyOf (.ref a) = some (keyV y) := by
  classical
  simp only [rowKind]
  simp [hv, e]
section
variable {X : Cx} {E : XK}
end
end DL

set_option maxHeartbeats 4000000
set_option linter.all false
set_option maxRecDepth 100000

namespace DL
open PySem PySem.Spec PyProof.Rows L2 PySem.W

/-! ### sorted(rows), of any number -/
def atomK : D → Option Key
  | .int i => some (.inl i)
  | .str x => some (.inr x)
  | _ => none
def keyRs : List D → List Key
  | [] => []
  | d :: r => match atomK d with
    | some k => k :: keyRs r
    | none => []
def keyRow : D → List Key
  | .tup es => keyRs es
  | _ => []
def sigD : D → Nat
  | .int _ => 0
  | .str _ => 1
  | _ => 2
def rowSig : D → Option (List Nat)
  | .tup es => some (es.map sigD)
  | _ => none
abbrev leK (a b : List Key) : Prop := lexK b a = false
theorem leK_trans {a b c : List Key} (h : leK a b) (h2 : leK b c) : leK a c := by
  unfold leK at *
  cases h3 : lexK c a with
  | false => rfl
  | true =>
    rcases lexK_neg c b a h3 with z | z
    · rw [h2] at z; cases z
    · rw [h] at z; cases z
theorem leK_of {a b : List Key} (h : lexK a b = true) : leK a b := by
  unfold leK
  cases h2 : lexK b a with
  | false => rfl
  | true => have := lexK_trans a b a h h2; rw [lexK_irr] at this; cases this
/-- two rows of keys in order, of the same keys -/
theorem keys_same : ∀ {a b : List (List Key)}, a.Perm b → a.Pairwise leK → b.Pairwise leK → a = b
  | [], b, p, _, _ => (List.nil_perm.mp p).symm
  | x :: a, [], p, _, _ => by have := p.length_eq; simp at this
  | x :: a, y :: b, p, ha, hb => by
    obtain ⟨a1, a2⟩ := List.pairwise_cons.mp ha
    obtain ⟨b1, b2⟩ := List.pairwise_cons.mp hb
    have hx : leK y x := by
      rcases List.mem_cons.mp (p.mem_iff.mp (List.mem_cons_self)) with e | e
      · rw [e]; exact lexK_irr y
      · exact b1 x e
    have hy : leK x y := by
      rcases List.mem_cons.mp (p.mem_iff.mpr (List.mem_cons_self)) with e | e
      · rw [e]; exact lexK_irr x
      · exact a1 y e
    have e : x = y := lexK_total _ _ hx hy
    subst e
    rw [keys_same (List.Perm.cons_inv p) a2 b2]
theorem inj_nodup {α β : Type} {f : α → β} : ∀ {l : List α}, (l.map f).Nodup → ∀ x ∈ l, ∀ y ∈ l, f x = f y → x = y
  | [], _, x, hx, _, _, _ => by cases hx
  | a :: l, h, x, hx, y, hy, e => by
    rw [List.map_cons] at h
    obtain ⟨h1, h2⟩ := List.nodup_cons.mp h
    rcases List.mem_cons.mp hx with ex | hx
    · rcases List.mem_cons.mp hy with ey | hy
      · rw [ex, ey]
      · exact absurd (List.mem_map.mpr ⟨y, hy, by rw [← e, ex]⟩) h1
    · rcases List.mem_cons.mp hy with ey | hy
      · exact absurd (List.mem_map.mpr ⟨x, hx, by rw [e, ey]⟩) h1
      · exact inj_nodup h2 x hx y hy e
theorem row_is {K : PySem.W.Frag} {H : Hp} : ∀ {es : List D} {y : List V}, Reps K H es y → keyV y = keyRs es ∧ sigs y = some (es.map sigD)
  | [], y, r => by rw [reps_nil.mp r]; exact ⟨rfl, rfl⟩
  | e :: es, y, r => by
    obtain ⟨x, t, rfl, h1, h2⟩ := reps_cons.mp r
    obtain ⟨i1, i2⟩ := row_is h2
    unfold keyV keyRs sigs
    rw [i2, List.map_cons]
    cases e with
    | int a => rw [rep_int.mp h1, i1]; exact ⟨rfl, rfl⟩
    | str a => rw [rep_str.mp h1, i1]; exact ⟨rfl, rfl⟩
    | non => rw [rep_non.mp h1]; exact ⟨rfl, rfl⟩
    | bl b => rw [rep_bl.mp h1]; exact ⟨rfl, rfl⟩
    | tup ds =>
      obtain ⟨a, xs, rfl, _⟩ := rep_tup.mp h1
      exact ⟨rfl, rfl⟩
    | lst ds =>
      obtain ⟨a, xs, rfl, _⟩ := rep_lst.mp h1
      exact ⟨rfl, rfl⟩
def condD (ds : List D) : Bool := match ds with
  | [] => true
  | d :: _ => match rowSig d with
    | some l => ds.all (fun e => rowSig e == some l) && (l.head? == some 0 || l.head? == some 1) && (l.all (fun k => decide (k < 2)) || decide ((ds.map keyRow).Nodup))
    | none => false
/-- what the rows are -/
structure CD (ds : List D) (l : List Nat) : Prop where
  row : ∀ d ∈ ds, rowSig d = some l
  hd : l.head? = some 0 ∨ l.head? = some 1
  inj : (∀ k ∈ l, k < 2) ∨ (ds.map keyRow).Nodup
theorem condD_cd {ds : List D} (h : condD ds = true) : ∃ l, CD ds l := by
  unfold condD at h
  split at h
  · exact ⟨[0], fun d hd => (by cases hd), .inl rfl, .inr List.nodup_nil⟩
  · split at h
    · rename_i d r l el
      rw [Bool.and_eq_true, Bool.and_eq_true, Bool.or_eq_true, Bool.or_eq_true] at h
      obtain ⟨⟨h1, h2⟩, h3⟩ := h
      refine ⟨l, fun d hd => ?_, ?_, ?_⟩
      · exact eq_of_beq (List.all_eq_true.mp h1 d hd)
      · rcases h2 with h2 | h2
        · exact .inl (eq_of_beq h2)
        · exact .inr (eq_of_beq h2)
      · rcases h3 with h3 | h3
        · exact .inl fun k hk => of_decide_eq_true (List.all_eq_true.mp h3 k hk)
        · exact .inr (of_decide_eq_true h3)
    · cases h
theorem rows_of {K : PySem.W.Frag} {H : Hp} {l : List Nat} : ∀ {ds : List D} {zs : List V}, Reps K H ds zs → (∀ d ∈ ds, rowSig d = some l) → ∃ ys, RowsT H zs ys ∧ (∀ y ∈ ys, sigs y = some l) ∧ ys.map keyV = ds.map keyRow
  | [], zs, r, _ => by rw [reps_nil.mp r]; exact ⟨[], .nil, fun y hy => (by cases hy), rfl⟩
  | d :: ds, zs, r, h => by
    obtain ⟨x, t, rfl, h1, h2⟩ := reps_cons.mp r
    obtain ⟨ys, i1, i2, i3⟩ := rows_of h2 fun d hd => h d (by simp [hd])
    have hd := h d (by simp)
    cases d with
    | tup es =>
      obtain ⟨a, y, rfl, h3, h4⟩ := rep_tup.mp h1
      obtain ⟨k1, k2⟩ := row_is h4
      simp only [rowSig, Option.some.injEq] at hd
      refine ⟨y :: ys, .cons ⟨a, rfl, h3⟩ i1, fun z hz => ?_, ?_⟩
      · rcases List.mem_cons.mp hz with rfl | hz
        · rw [k2, hd]
        · exact i2 z hz
      · rw [List.map_cons, List.map_cons, i3, k1]; rfl
    | _ => cases hd
theorem vkey_is {K : PySem.W.Frag} {Hf H : Hp} (e : Same Hf H) {d : D} {z : V} {l : List Nat} (hd : rowSig d = some l) (r : Rep K Hf d z) : vkey H z = keyRow d := by
  cases d with
  | tup es =>
    obtain ⟨a, y, rfl, h3, h4⟩ := rep_tup.mp r
    show (match H a with
      | some (.tup y) => keyV y
      | _ => []) = _
    rw [e _ _ h3]
    exact (row_is h4).1
  | _ => cases hd
section
variable {X : Cx} {E : XK}
end
end DL

set_option maxHeartbeats 4000000
set_option linter.all false
set_option maxRecDepth 100000

namespace DL
open PySem PySem.Spec PyProof.Rows L2

/-! ### a new list by + -/
section
variable {X : Cx} {E : XK} {pos : Pos} {a b : Expr}
end

/-! ### expressions that change a list of our own: xs.pop() within them -/
def PoX (K : PySem.W.Frag) (E : XK) (H0 : Hp) (B : Addr → Prop) (σ : L2.St) (Hf : Hp) {α β : Type} (R : Hp → Hp → α → β → Prop) (r : M (α × DSt)) (Q : β → Hp → Prop) : Prop := match r with
  | .ok (a, sd') => ∀ b Hf' H', Same Hf Hf' → SR K H0 B Hf' sd' σ H' → R Hf' H' a b → Q b H'
  | .ex x => ∀ c dx Hf' H', Same Hf Hf' → Fin' H0 B Hf' H' → RepX K Hf' H' x c dx → E c dx H'
  | .bad => False
section
variable {K : PySem.W.Frag} {E : XK} {H0 : Hp} {B : Addr → Prop} {σ : L2.St} {Hf H Hf1 : Hp} {α β γ δ : Type} {R : Hp → Hp → α → β → Prop} {T : Hp → Hp → γ → δ → Prop}
theorem PoX.weak {r : M (α × DSt)} {Q : β → Hp → Prop} (g : Same Hf Hf1) (h : PoX K E H0 B σ Hf R r Q) : PoX K E H0 B σ Hf1 R r Q := by
  cases r with
  | ok a => exact fun b Hf' H' e q => h b Hf' H' (g.trans e) q
  | ex x => exact fun c dx Hf' H' e q => h c dx Hf' H' (g.trans e) q
  | bad => exact h
/-- a plain part, then the rest -/
theorem PoX.bind {sd : DSt} {r : M γ} {k : γ → M (α × DSt)} {Q : β → Hp → Prop} {Q1 : δ → Hp → Prop} (sr : SR K H0 B Hf sd σ H) (h : PoX K E H0 B σ Hf R (r.bind k) Q)
    (s : ∀ a b Hf1 H1, r = .ok a → Gr Hf H Hf1 H1 → SR K H0 B Hf1 sd σ H1 → T Hf1 H1 a b → PoX K E H0 B σ Hf1 R (k a) Q → Q1 b H1) : Po K E T Hf H r Q1 := by
  cases r with
  | ok a => exact fun b Hf' H' g q => s a b Hf' H' rfl g (sr.gr g) q (PoX.weak g.fz h)
  | ex x => exact fun c dx Hf' H' g q => h c dx Hf' H' g.fz (sr.gr g).fin q
  | bad => exact h
end
section
variable {X : Cx} {E : XK} {pos : Pos} {a b : Expr}
end
end DL

set_option maxHeartbeats 4000000
set_option linter.all false
set_option maxRecDepth 100000

namespace DL
open PySem PySem.Spec PyProof.Rows L2

/-! ### comprehensions with a condition -/
end DL

set_option maxHeartbeats 4000000
set_option linter.all false
set_option maxRecDepth 100000

namespace L2
open PySem PySem.Spec PyProof.Rows
/-! ### keys of all the plain kinds: None, truths, ints, texts -/
section
variable {prog : Program} {w : World} {A : Around} {E : Value → Shared → Prop} {s : Shared}
end

variable {X : Cx}
end L2

set_option maxHeartbeats 4000000
set_option linter.all false
set_option maxRecDepth 100000

namespace DP
open PySem PySem.Spec
open PySem.Sem (wp)
/-! ### dict(list of pairs), the keys tuples -/
section
variable {prog : Program} {w : World} {A : Around} {E : Value → Shared → Prop} {s : Shared}
end
end DP

set_option maxHeartbeats 4000000
set_option linter.all false
set_option maxRecDepth 100000

namespace DL
open PySem PySem.Spec PyProof.Rows L2

section
variable {X : Cx} {E : XK}
theorem RepKV.all {K : PySem.W.Frag} {H : Hp} : ∀ {rs : List (List Key × D)} {ys : List (List Key × V)}, RepKV K H rs ys → ∀ {kvs : List (List Key × D)} {kys : List (List Key × V)}, RepKV K H kvs kys → RepKV K H (rs.foldl (fun kvs r => putD kvs r.1 r.2) kvs) (ys.foldl (fun kvs r => putK kvs r.1 r.2) kys) := by
  intro rs ys h
  induction h with
  | nil => intro kvs kys q; exact q
  | @cons r y rs ys h t ih =>
    intro kvs kys q
    rw [List.foldl_cons, List.foldl_cons]
    obtain ⟨e, f⟩ := h
    rw [← e]
    exact ih (RepKV.put q r.1 f)
/-! ### membership of plain tuples -/
end
end DL

set_option maxHeartbeats 4000000
set_option linter.all false
set_option maxRecDepth 100000

/-! ### the whole of a tuple; nothing and a tuple -/
namespace HT
open PySem PySem.Spec PyProof.Rows
section
variable {prog : Program} {w : World} {A : Around} {E : Value → Shared → Prop} {s : Shared}
end
end HT
namespace DL
open PySem PySem.Spec PyProof.Rows L2
section
variable {X : Cx} {E : XK}
end
end DL

set_option maxHeartbeats 4000000
set_option linter.all false
set_option maxRecDepth 100000

namespace DL
open PySem PySem.Spec PySem.Calls PySem.Builtin PySem.Builtin.ObjectAttr PyProof.Rows L2 PySem.W
/-! ### functions as values -/
section
variable {X : Cx} {E : XK} {pos p p2 : Pos} {a : Expr}
/-! ### defs whose first argument is a function -/
end
end DL

set_option maxHeartbeats 4000000
set_option linter.all false
set_option maxRecDepth 100000

namespace DL
open PySem PySem.Spec PySem.Calls PySem.Builtin PySem.Builtin.ObjectAttr PyProof.Rows L2 PySem.W
/-! ### for n, f, g in [(0, f1, g1), (1, f2, g2)] -/
section
variable {X : Cx} {E : XK} {pos : Pos}
end
end DL

set_option maxHeartbeats 4000000
set_option linter.all false
set_option maxRecDepth 100000

namespace DL
open PySem PySem.Spec PySem.Calls PySem.Builtin PySem.Builtin.ObjectAttr PyProof.Rows L2 PySem.W
/-! ### x = [..]: the list goes to its name ahead of what the block's names let go -/
end DL

set_option maxHeartbeats 4000000
set_option linter.all false
set_option maxRecDepth 100000

namespace DL
open PySem PySem.Spec PySem.Calls PySem.Builtin PySem.Builtin.ObjectAttr PyProof.Rows L2 PySem.W
/-! ### a try round a call of the function in slot l -/
section
variable {X : Cx} {E : XK} {a : Expr}
end
/-! ### x = [.. if ..] -/
/-! ### d.get(k, x) of a dict of our own -/
end DL

set_option maxHeartbeats 4000000
set_option linter.all false
set_option maxRecDepth 100000

/-! ### t[::x], x being 1 or -1 -/
namespace DL
open PySem PySem.Spec PyProof.Rows L2 HT
section
variable {prog : Program} {w : World} {A : Around} {E : Value → Shared → Prop} {s : Shared}
end
section
variable {X : Cx} {E : XK} {pos p2 : Pos} {e es : Expr}
end
/-! ### xs[k] of a list of our own -/
end DL

set_option maxRecDepth 100000
set_option maxHeartbeats 4000000
set_option linter.all false
namespace SetT
open PySem
/-! ### the table of a set: where one is put -/
theorem go_spec (xs : Array Nat) (j : Nat) : ∀ (fuel lo hi : Nat), hi - lo ≤ fuel → lo ≤ hi → hi ≤ xs.size → xs.toList.Pairwise (· < ·) →
    (∀ i v, i < lo → xs[i]? = some v → v < j) → (∀ i v, hi ≤ i → xs[i]? = some v → j ≤ v) →
    let p := SetTable.below.go xs j fuel lo hi
    p ≤ xs.size ∧ (∀ i v, i < p → xs[i]? = some v → v < j) ∧ (∀ i v, p ≤ i → xs[i]? = some v → j ≤ v)
  | 0, lo, hi, hf, hl, hs, hp, h1, h2 => by
    have : lo = hi := by omega
    subst this
    exact ⟨hs, h1, h2⟩
  | fuel + 1, lo, hi, hf, hl, hs, hp, h1, h2 => by
    unfold SetTable.below.go
    by_cases h : lo < hi
    · rw [if_pos h]
      dsimp only
      have hm : (lo + hi) / 2 < xs.size := by omega
      have em : xs[(lo + hi) / 2]? = some xs[(lo + hi) / 2] := Array.getElem?_eq_getElem hm
      have eg : xs.getD ((lo + hi) / 2) j = xs[(lo + hi) / 2] := by simp [Array.getD, hm]
      have mono : ∀ a b va vb : Nat, a ≤ b → xs[a]? = some va → xs[b]? = some vb → va ≤ vb := fun a b va vb hab ha hb => by
        by_cases e : a = b
        · subst e; rw [ha] at hb; injection hb with hb; omega
        · rw [← Array.getElem?_toList] at ha hb
          obtain ⟨la, ea⟩ := List.getElem?_eq_some_iff.mp ha
          obtain ⟨lb, eb⟩ := List.getElem?_eq_some_iff.mp hb
          have := List.pairwise_iff_getElem.mp hp a b la lb (by omega)
          omega
      rw [eg]
      split
      · rename_i hv
        exact go_spec xs j fuel _ _ (by omega) (by omega) hs hp (fun i v hi' hv' => by
          have := mono i ((lo + hi) / 2) v _ (by omega) hv' em
          omega) h2
      · rename_i hv
        exact go_spec xs j fuel _ _ (by omega) (by omega) (by omega) hp h1 (fun i v hi' hv' => by
          have := mono ((lo + hi) / 2) i _ v hi' em hv'
          omega)
    · rw [if_neg h]
      have : lo = hi := by omega
      subst this
      exact ⟨hs, h1, h2⟩
theorem below_spec {xs : Array Nat} (hp : xs.toList.Pairwise (· < ·)) (j : Nat) : SetTable.below xs j ≤ xs.size ∧ (∀ i v, i < SetTable.below xs j → xs[i]? = some v → v < j) ∧ (∀ i v, SetTable.below xs j ≤ i → xs[i]? = some v → j ≤ v) :=
  go_spec xs j xs.size 0 xs.size (by omega) (Nat.zero_le _) (Nat.le_refl _) hp (fun i v h => by omega) (fun i v h e => by
    have := (Array.getElem?_eq_some_iff.mp e).1
    omega)
/-- a small table, never emptied -/
structure Tb (t : SetTable) (n : Nat) : Prop where
  mask : t.mask = 7
  dum : t.dummies = #[]
  size : t.place.size = n
  ris : t.place.toList.Pairwise (· < ·)
  lt : ∀ j ∈ t.place.toList, j < 8
  plain : t.plain = true
theorem has_nil (j : Nat) : SetTable.has #[] j = false := rfl
theorem slot_of {t : SetTable} {n : Nat} (h : Tb t n) (j : Nat) : (j ∉ t.place.toList ∧ t.slot j = .empty) ∨ (j ∈ t.place.toList ∧ ∃ i, t.slot j = .live i) := by
  unfold SetTable.slot
  dsimp only
  obtain ⟨b1, b2, b3⟩ := below_spec h.ris j
  by_cases e : t.place[SetTable.below t.place j]? = some j
  · rw [if_pos (by rw [e]; exact beq_self_eq_true _)]
    refine .inr ⟨?_, _, rfl⟩
    rw [← Array.getElem?_toList] at e
    exact List.mem_of_getElem? e
  · rw [if_neg (by simpa using e), h.dum, has_nil]
    refine .inl ⟨fun hm => ?_, rfl⟩
    obtain ⟨i, hi⟩ := List.getElem?_of_mem hm
    rw [Array.getElem?_toList] at hi
    by_cases hlt : i < SetTable.below t.place j
    · have := b2 i j hlt hi; omega
    · have hge : SetTable.below t.place j ≤ i := by omega
      have hs := (Array.getElem?_eq_some_iff.mp hi).1
      have hbl : SetTable.below t.place j < t.place.size := by omega
      have hv := b3 _ _ (Nat.le_refl _) (Array.getElem?_eq_getElem hbl)
      have : i = SetTable.below t.place j := by
        by_cases q : i = SetTable.below t.place j
        · exact q
        · exfalso
          have l1 : SetTable.below t.place j < t.place.toList.length := by simpa using hbl
          have l2 : i < t.place.toList.length := by simpa using hs
          have := List.pairwise_iff_getElem.mp h.ris _ i l1 l2 (by omega)
          rw [Array.getElem_toList, Array.getElem_toList] at this
          have e2 := (Array.getElem?_eq_some_iff.mp hi).2
          omega
      rw [this] at hi
      exact e hi
theorem len_sub : ∀ (l L : List Nat), l.Nodup → (∀ e ∈ l, e ∈ L) → l.length ≤ L.length
  | [], L, _, _ => Nat.zero_le _
  | a :: l, L, hn, hs => by
    rw [List.nodup_cons] at hn
    have ha := hs a List.mem_cons_self
    have := len_sub l (L.erase a) hn.2 fun e he => (List.mem_erase_of_ne (fun z : e = a => hn.1 (by rw [← z]; exact he))).mpr (hs e (List.mem_cons_of_mem _ he))
    rw [List.length_erase_of_mem ha] at this
    have := List.length_pos_of_mem ha
    rw [List.length_cons]
    omega
/-- one of the eight slots is free -/
theorem free_ex {t : SetTable} {n : Nat} (h : Tb t n) (hn : n ≤ 4) : ∃ e, e < 8 ∧ e ∉ t.place.toList := by
  rcases Classical.em (∃ e, e < 8 ∧ e ∉ t.place.toList) with q | q
  · exact q
  · exfalso
    have := len_sub (List.range 8) t.place.toList List.nodup_range fun e he => by
      rcases Classical.em (e ∈ t.place.toList) with m | m
      · exact m
      · exact (q ⟨e, List.mem_range.mp he, m⟩).elim
    rw [List.length_range, Array.length_toList, h.size] at this
    omega
/-! ### the search ends -/
def stp (j : Nat) : Nat := (j * 5 + 1) % 8
def stps : Nat → Nat → Nat
  | 0, j => j
  | n + 1, j => stps n (stp j)
theorem reach : ∀ j < 8, ∀ e < 8, ∃ n, n < 8 ∧ stps n j = e := by decide +kernel
/-- a search that stands at j, and has so much perturbing left -/
structure At (p : SetTable.Probe) (j b : Nat) : Prop where
  pj : p.j = j
  pi : p.i = j
  more : p.more = 0
  lt : j < 8
  per : p.perturb < 32 ^ b
  dum : p.dummy = none
/-! ### one more -/
theorem insertAt_toList {α : Type} (xs : Array α) (p : Nat) (x : α) (hp : p ≤ xs.size) : (SetTable.insertAt xs p x).toList = xs.toList.take p ++ x :: xs.toList.drop p := by
  unfold SetTable.insertAt
  rw [Array.toList_append, Array.toList_push, Array.toList_extract, Array.toList_extract]
  simp [List.extract_eq_drop_take, List.append_assoc]
  exact List.take_of_length_le (by rw [List.length_drop, Array.length_toList]; omega)
theorem put_tb {t : SetTable} {n : Nat} (h : Tb t n) (hn : n ≤ 7) {f : Nat} (f8 : f < 8) (hf : f ∉ t.place.toList) : Tb (t.put f).1 (n + 1) ∧ (t.put f).1.led = t.led := by
  obtain ⟨b1, b2, b3⟩ := below_spec h.ris f
  unfold SetTable.put
  rw [h.dum, has_nil]
  simp only [Bool.false_eq_true, if_false]
  have tl := insertAt_toList t.place (SetTable.below t.place f) f b1
  refine ⟨⟨h.mask, rfl, ?_, ?_, ?_, h.plain⟩, trivial⟩
  · rw [← Array.length_toList]
    dsimp only
    rw [tl, List.length_append, List.length_cons, List.length_take, List.length_drop, Array.length_toList]
    have := h.size
    omega
  · dsimp only
    rw [tl]
    have hd := h.ris
    rw [← List.take_append_drop (SetTable.below t.place f) t.place.toList] at hd
    obtain ⟨h1, h2, h3⟩ := List.pairwise_append.mp hd
    have up : ∀ v ∈ t.place.toList.drop (SetTable.below t.place f), f < v := fun v hv => by
      obtain ⟨i, hi⟩ := List.getElem?_of_mem hv
      rw [List.getElem?_drop, Array.getElem?_toList] at hi
      have := b3 _ v (by omega) hi
      have hne : f ≠ v := fun e => hf (by
        rw [e]
        exact List.mem_of_getElem? (i := SetTable.below t.place f + i) (by rw [Array.getElem?_toList]; exact hi))
      omega
    have lo : ∀ v ∈ t.place.toList.take (SetTable.below t.place f), v < f := fun v hv => by
      obtain ⟨i, hi⟩ := List.getElem?_of_mem hv
      have hl := (List.getElem?_eq_some_iff.mp hi).1
      rw [List.length_take] at hl
      rw [List.getElem?_take_of_lt (by omega), Array.getElem?_toList] at hi
      exact b2 i v (by omega) hi
    refine List.pairwise_append.mpr ⟨h1, List.pairwise_cons.mpr ⟨up, h2⟩, fun a ha b hb => ?_⟩
    rcases List.mem_cons.mp hb with rfl | hb
    · exact lo a ha
    · have := lo a ha; have := up b hb; omega
  · dsimp only
    rw [tl]
    intro j hj
    rcases List.mem_append.mp hj with m | m
    · exact h.lt j (List.mem_of_mem_take m)
    · rcases List.mem_cons.mp m with rfl | m
      · exact f8
      · exact h.lt j (List.mem_of_mem_drop m)
theorem fits_of {t : SetTable} {n : Nat} (h : Tb t n) (hn : n ≤ 7) : t.fits n = true := by
  unfold SetTable.fits SetTable.fill
  rw [h.size, h.dum, h.mask]
  simp
  exact hn
end SetT

set_option maxRecDepth 100000
set_option maxHeartbeats 4000000
set_option linter.all false
namespace SetT
open PySem PyProof.Rows
def kv : Value → Int
  | .int n _ => n
  | _ => 0
def keysE (es : Array (Int × Value)) : List Int := es.toList.map fun e => kv e.2
section
variable {prog : Program} {w : World} {A : Around} {E : Value → Shared → Prop} {s : Shared}
/-- a small set of ints at an address: its keys in some order -/
def SI (prog : Program) (w : World) (h : Heap) (a : Addr) (led : Bool) (ns : List Int) : Prop :=
  ∃ o es ep t, h.get? a = some o ∧ o.ExactSet ∧ o.data = .set es ep t ∧ ElemsOf (intKind prog w) es.toList ∧ Tb t es.size ∧ t.led = led ∧ (keysE es).Perm ns
theorem SI.at' {h h' : Heap} {a : Addr} {led : Bool} {ns : List Int} (hS : SI prog w h a led ns) (e : ∀ o, h.get? a = some o → h'.get? a = some o) : SI prog w h' a led ns := by
  obtain ⟨o, es, ep, t, ho, r⟩ := hS
  exact ⟨o, es, ep, t, e o ho, r⟩
end
end SetT

set_option maxRecDepth 100000
set_option maxHeartbeats 4000000
set_option linter.all false
namespace SetT
open PySem PyProof.Rows
section
variable {prog : Program} {w : World} {A : Around} {R : Result → Shared → Prop} {I : Addr} {fp wr : List Addr} {G : Array GenState → Array GenState → Prop} {n : Nat} {P : Nat → Value → Prop} {St : Nat → Shared → Prop}
end
section
variable {prog : Program} {w : World} {A : Around} {E : Value → Shared → Prop} {s : Shared}
def ledW (w : World) : Bool := !w.params.followText "set-order"
def freshSet (w : World) : Obj := { cls := .type "set", dict := none, data := .set #[] 0 (.fresh 0 0 (ledW w)) }
theorem code_new (a : Value) {Q₁ : Value → Shared → Prop}
    (h : Q₁ (.ref s.heap.objs.size) { s with heap := s.heap.push (freshSet w) }) :
    codeAny (model prog w) A (.call (.builtin "set.__new__") ⟨[.type "set", a], []⟩) (wants Q₁ E) s := by
  refine codeAny_of_tree ?_
  show wpAny _ A.in1 (do checkBuiltinCall "set.__new__" ⟨[.type "set", a], []⟩; again (.builtin "set.__new__" ⟨[.type "set", a], []⟩)) _ _ s
  refine wpAny_bind (wpAny_of_eq (F.newCall_set_1 a) (wpAny_pure ⟨plainId_quiet F.plain_set_new _, codeAny_builtin F.entry_set_new ?_⟩))
  rw [Around.under_plainId F.plain_set_new _]
  unfold Builtin.«set.__new__» Builtin.Frozenset.newClass
  have hsub := sub_set_self
  obtain ⟨hp, g, d, tk, os⟩ := s
  dsimp only
  wp_walk
  refine wpAny_askSetting (wpAny_pure ?_)
  dsimp only
  simp only [newObj]
  refine wpAny_bind (wpAny_alloc (wpAny_pure ?_))
  exact wpAny_pure h
end
end SetT

set_option maxRecDepth 100000
set_option maxHeartbeats 4000000
set_option linter.all false
namespace HSet
open PySem
/-! ### binary search -/
theorem go_spec (xs : Array Nat) (j : Nat) : ∀ (fuel lo hi : Nat), hi - lo ≤ fuel → lo ≤ hi → hi ≤ xs.size → xs.toList.Pairwise (· < ·) →
    (∀ i v, i < lo → xs[i]? = some v → v < j) → (∀ i v, hi ≤ i → xs[i]? = some v → j ≤ v) →
    let p := SetTable.below.go xs j fuel lo hi
    p ≤ xs.size ∧ (∀ i v, i < p → xs[i]? = some v → v < j) ∧ (∀ i v, p ≤ i → xs[i]? = some v → j ≤ v)
  | 0, lo, hi, hf, hl, hs, hp, h1, h2 => by
    have : lo = hi := by omega
    subst this
    exact ⟨hs, h1, h2⟩
  | fuel + 1, lo, hi, hf, hl, hs, hp, h1, h2 => by
    unfold SetTable.below.go
    by_cases h : lo < hi
    · rw [if_pos h]
      dsimp only
      have hm : (lo + hi) / 2 < xs.size := by omega
      have em : xs[(lo + hi) / 2]? = some xs[(lo + hi) / 2] := Array.getElem?_eq_getElem hm
      have eg : xs.getD ((lo + hi) / 2) j = xs[(lo + hi) / 2] := by simp [Array.getD, hm]
      have mono : ∀ a b va vb : Nat, a ≤ b → xs[a]? = some va → xs[b]? = some vb → va ≤ vb := fun a b va vb hab ha hb => by
        by_cases e : a = b
        · subst e; rw [ha] at hb; injection hb with hb; omega
        · rw [← Array.getElem?_toList] at ha hb
          obtain ⟨la, ea⟩ := List.getElem?_eq_some_iff.mp ha
          obtain ⟨lb, eb⟩ := List.getElem?_eq_some_iff.mp hb
          have := List.pairwise_iff_getElem.mp hp a b la lb (by omega)
          omega
      rw [eg]
      split
      · rename_i hv
        exact go_spec xs j fuel _ _ (by omega) (by omega) hs hp (fun i v hi' hv' => by
          have := mono i ((lo + hi) / 2) v _ (by omega) hv' em
          omega) h2
      · rename_i hv
        exact go_spec xs j fuel _ _ (by omega) (by omega) (by omega) hp h1 (fun i v hi' hv' => by
          have := mono ((lo + hi) / 2) i _ v hi' em hv'
          omega)
    · rw [if_neg h]
      have : lo = hi := by omega
      subst this
      exact ⟨hs, h1, h2⟩
theorem below_spec {xs : Array Nat} (hp : xs.toList.Pairwise (· < ·)) (j : Nat) : SetTable.below xs j ≤ xs.size ∧ (∀ i v, i < SetTable.below xs j → xs[i]? = some v → v < j) ∧ (∀ i v, SetTable.below xs j ≤ i → xs[i]? = some v → j ≤ v) :=
  go_spec xs j xs.size 0 xs.size (by omega) (Nat.zero_le _) (Nat.le_refl _) hp (fun i v h => by omega) (fun i v h e => by
    have := (Array.getElem?_eq_some_iff.mp e).1
    omega)
def Good (m : Nat) : Prop := m = 7 ∨ m = 31 ∨ m = 127 ∨ m = 511
/-- a table of a set from which nothing was taken -/
structure Tb (t : SetTable) (n : Nat) : Prop where
  mask : Good t.mask
  dum : t.dummies = #[]
  size : t.place.size = n
  ris : t.place.toList.Pairwise (· < ·)
  lt : ∀ j ∈ t.place.toList, j ≤ t.mask
theorem has_nil (j : Nat) : SetTable.has #[] j = false := rfl
theorem slot_of {t : SetTable} {n : Nat} (h : Tb t n) (j : Nat) : (j ∉ t.place.toList ∧ t.slot j = .empty) ∨ (j ∈ t.place.toList ∧ ∃ i, t.slot j = .live i ∧ t.place[i]? = some j) := by
  unfold SetTable.slot
  dsimp only
  obtain ⟨b1, b2, b3⟩ := below_spec h.ris j
  by_cases e : t.place[SetTable.below t.place j]? = some j
  · rw [if_pos (by rw [e]; exact beq_self_eq_true _)]
    refine .inr ⟨?_, _, rfl, e⟩
    rw [← Array.getElem?_toList] at e
    exact List.mem_of_getElem? e
  · rw [if_neg (by simpa using e), h.dum, has_nil]
    refine .inl ⟨fun hm => ?_, rfl⟩
    obtain ⟨i, hi⟩ := List.getElem?_of_mem hm
    rw [Array.getElem?_toList] at hi
    by_cases hlt : i < SetTable.below t.place j
    · have := b2 i j hlt hi; omega
    · have hge : SetTable.below t.place j ≤ i := by omega
      have hs := (Array.getElem?_eq_some_iff.mp hi).1
      have hbl : SetTable.below t.place j < t.place.size := by omega
      have hv := b3 _ _ (Nat.le_refl _) (Array.getElem?_eq_getElem hbl)
      have : i = SetTable.below t.place j := by
        by_cases q : i = SetTable.below t.place j
        · exact q
        · exfalso
          have l1 : SetTable.below t.place j < t.place.toList.length := by simpa using hbl
          have l2 : i < t.place.toList.length := by simpa using hs
          have := List.pairwise_iff_getElem.mp h.ris _ i l1 l2 (by omega)
          rw [Array.getElem_toList, Array.getElem_toList] at this
          have e2 := (Array.getElem?_eq_some_iff.mp hi).2
          omega
      rw [this] at hi
      exact e hi
theorem len_sub : ∀ (l L : List Nat), l.Nodup → (∀ e ∈ l, e ∈ L) → l.length ≤ L.length
  | [], L, _, _ => Nat.zero_le _
  | a :: l, L, hn, hs => by
    rw [List.nodup_cons] at hn
    have ha := hs a List.mem_cons_self
    have := len_sub l (L.erase a) hn.2 fun e he => (List.mem_erase_of_ne (fun z : e = a => hn.1 (by rw [← z]; exact he))).mpr (hs e (List.mem_cons_of_mem _ he))
    rw [List.length_erase_of_mem ha] at this
    have := List.length_pos_of_mem ha
    rw [List.length_cons]
    omega
/-- a slot below the bound that is not among so few -/
theorem free_ex {m : Nat} {l : List Nat} (hn : l.length ≤ m) : ∃ e, e ≤ m ∧ e ∉ l := by
  rcases Classical.em (∃ e, e ≤ m ∧ e ∉ l) with q | q
  · exact q
  · exfalso
    have := len_sub (List.range (m + 1)) l List.nodup_range fun e he => by
      rcases Classical.em (e ∈ l) with h | h
      · exact h
      · exact (q ⟨e, by have := List.mem_range.mp he; omega, h⟩).elim
    rw [List.length_range] at this
    omega
/-! ### the walk through the slots -/
def lcg (m i : Nat) : Nat := (i * 5 + 1) % (m + 1)
def itr (m : Nat) : Nat → Nat → Nat
  | 0, i => i
  | n + 1, i => itr m n (lcg m i)
theorem itr_add (m : Nat) : ∀ (a b i : Nat), itr m (a + b) i = itr m b (itr m a i)
  | 0, b, i => by rw [Nat.zero_add]; rfl
  | a + 1, b, i => by rw [Nat.add_right_comm]; exact itr_add m a b (lcg m i)
def lst (m : Nat) : Nat → Nat → List Nat
  | 0, _ => []
  | n + 1, i => i :: lst m n (lcg m i)
theorem lst_get (m : Nat) : ∀ (n i : Nat) (e : Nat), e ∈ lst m n i → ∃ k, k < n ∧ itr m k i = e
  | 0, i, e, h => by cases h
  | n + 1, i, e, h => by
    rcases List.mem_cons.mp h with rfl | h
    · exact ⟨0, by omega, rfl⟩
    · obtain ⟨k, h1, h2⟩ := lst_get m n _ e h
      exact ⟨k + 1, by omega, h2⟩
def bitsOf : List Nat → Nat → Nat
  | [], acc => acc
  | x :: r, acc => bitsOf r (acc ||| 2 ^ x)
theorem bits_mem : ∀ (l : List Nat) (acc e : Nat), (bitsOf l acc).testBit e = true → acc.testBit e = true ∨ e ∈ l
  | [], acc, e, h => .inl h
  | x :: r, acc, e, h => by
    rcases bits_mem r _ e h with q | q
    · rw [Nat.testBit_or, Bool.or_eq_true] at q
      rcases q with q | q
      · exact .inl q
      · right
        rw [Nat.testBit_two_pow] at q
        have : x = e := of_decide_eq_true q
        rw [this]; exact List.mem_cons_self
    · exact .inr (List.mem_cons_of_mem _ q)
def full (m : Nat) : Bool := bitsOf (lst m (m + 1) 0) 0 == 2 ^ (m + 1) - 1 && itr m (m + 1) 0 == 0
theorem full_all : full 7 = true ∧ full 31 = true ∧ full 127 = true ∧ full 511 = true := by decide +kernel
theorem full_of {m : Nat} (h : Good m) : full m = true := by
  obtain ⟨a, b, c, d⟩ := full_all
  rcases h with rfl | rfl | rfl | rfl <;> assumption
theorem reach0 {m : Nat} (h : Good m) {e : Nat} (he : e ≤ m) : ∃ k, k < m + 1 ∧ itr m k 0 = e := by
  have f := full_of h
  unfold full at f
  rw [Bool.and_eq_true] at f
  have f1 : bitsOf (lst m (m + 1) 0) 0 = 2 ^ (m + 1) - 1 := eq_of_beq f.1
  have : (bitsOf (lst m (m + 1) 0) 0).testBit e = true := by
    rw [f1, Nat.testBit_two_pow_sub_one]
    exact decide_eq_true (by omega)
  rcases bits_mem _ _ e this with q | q
  · simp at q
  · exact lst_get m _ _ e q
theorem reach {m : Nat} (h : Good m) {i e : Nat} (hi : i ≤ m) (he : e ≤ m) : ∃ k, k < m + 1 ∧ itr m k i = e := by
  obtain ⟨a, a1, rfl⟩ := reach0 h hi
  obtain ⟨b, b1, rfl⟩ := reach0 h he
  have f := full_of h
  unfold full at f
  rw [Bool.and_eq_true] at f
  have z : itr m (m + 1) 0 = 0 := by simpa using f.2
  by_cases q : a ≤ b
  · exact ⟨b - a, by omega, by rw [← itr_add]; congr 1; omega⟩
  · refine ⟨m + 1 + b - a, by omega, ?_⟩
    rw [← itr_add, show a + (m + 1 + b - a) = (m + 1) + b by omega, itr_add, z]
/-- the leaps -/
def lps (m : Nat) : Nat → Nat × Nat → Nat × Nat
  | 0, q => q
  | n + 1, q => lps m n (SetTable.leap m q.1 q.2)
theorem lps_add (m : Nat) : ∀ (a b : Nat) (q : Nat × Nat), lps m (a + b) q = lps m b (lps m a q)
  | 0, b, i => by rw [Nat.zero_add]; rfl
  | a + 1, b, i => by rw [Nat.add_right_comm]; exact lps_add m a b _
theorem lps_zero (m : Nat) : ∀ (n i : Nat), lps m n (i, 0) = (itr m n i, 0)
  | 0, i => rfl
  | n + 1, i => by
    show lps m n (SetTable.leap m i 0) = _
    unfold SetTable.leap
    rw [Nat.zero_div, Nat.add_zero]
    exact lps_zero m n _
theorem lps_per (m : Nat) : ∀ (n : Nat) (q : Nat × Nat) (b : Nat), q.2 < 32 ^ (n + b) → (lps m n q).2 < 32 ^ b
  | 0, q, b, h => by rw [Nat.zero_add] at h; exact h
  | n + 1, q, b, h => by
    refine lps_per m n _ b ?_
    unfold SetTable.leap
    dsimp only
    rw [show n + 1 + b = (n + b) + 1 by omega, Nat.pow_succ] at h
    omega
theorem lps_le (m : Nat) : ∀ (n : Nat) (q : Nat × Nat), q.1 ≤ m → (lps m n q).1 ≤ m
  | 0, q, h => h
  | n + 1, q, h => lps_le m n _ (by unfold SetTable.leap; dsimp only; have := Nat.mod_lt (q.1 * 5 + 1 + q.2 / 32) (show 0 < m + 1 by omega); omega)
theorem lps_meet {m : Nat} (h : Good m) {q : Nat × Nat} (h1 : q.1 ≤ m) (h2 : q.2 < 2 ^ 64) {e : Nat} (he : e ≤ m) : ∃ k, k < m + 14 ∧ (lps m k q).1 = e := by
  have p := lps_per m 13 q 0 (by have : (2 : Nat) ^ 64 < 32 ^ (13 + 0) := by decide
                                 omega)
  have l := lps_le m 13 q h1
  obtain ⟨k, k1, k2⟩ := reach h l he
  refine ⟨13 + k, by omega, ?_⟩
  rw [lps_add]
  have : lps m 13 q = ((lps m 13 q).1, 0) := by
    have : (lps m 13 q).2 = 0 := by simpa using p
    rw [← this]
  rw [this, lps_zero]
  exact k2
/-- a search at the begin of a run -/
def mkp (m : Nat) (q : Nat × Nat) : SetTable.Probe := { j := q.1, more := SetTable.runEnd m q.1 - q.1, i := q.1, perturb := q.2, dummy := none }
def adv (m : Nat) (p : SetTable.Probe) : SetTable.Probe :=
  if p.more > 0 then { p with j := p.j + 1, more := p.more - 1 } else { mkp m (SetTable.leap m p.i p.perturb) with dummy := p.dummy }
def advs (m : Nat) : Nat → SetTable.Probe → SetTable.Probe
  | 0, p => p
  | n + 1, p => advs m n (adv m p)
theorem advs_add (m : Nat) : ∀ (a b : Nat) (q : SetTable.Probe), advs m (a + b) q = advs m b (advs m a q)
  | 0, b, i => by rw [Nat.zero_add]; rfl
  | a + 1, b, i => by rw [Nat.add_right_comm]; exact advs_add m a b _
theorem run_out (m : Nat) : ∀ (r : Nat) (p : SetTable.Probe), p.more = r → p.dummy = none → advs m (r + 1) p = mkp m (SetTable.leap m p.i p.perturb)
  | 0, p, h, d => by
    show adv m p = _
    unfold adv
    rw [if_neg (by omega), d]
    rfl
  | r + 1, p, h, d => by
    show advs m (r + 1) (adv m p) = _
    have e : adv m p = { p with j := p.j + 1, more := p.more - 1 } := by
      unfold adv
      rw [if_pos (by omega)]
    rw [e]
    exact run_out m r _ (by dsimp only; omega) d
theorem leaps (m : Nat) : ∀ (k : Nat) (q : Nat × Nat), ∃ n, n ≤ 10 * k ∧ advs m n (mkp m q) = mkp m (lps m k q)
  | 0, q => ⟨0, by omega, rfl⟩
  | k + 1, q => by
    have hm : (mkp m q).more ≤ 9 := by
      unfold mkp SetTable.runEnd
      dsimp only
      split <;> omega
    have r := run_out m _ (mkp m q) rfl rfl
    obtain ⟨n, n1, n2⟩ := leaps m k (SetTable.leap m q.1 q.2)
    refine ⟨(mkp m q).more + 1 + n, by omega, ?_⟩
    rw [advs_add, r]
    exact n2
/-- so many steps to the first free slot -/
inductive Fst (m : Nat) (O : Nat → Prop) : SetTable.Probe → Nat → Prop where
  | here (p : SetTable.Probe) (h : ¬ O p.j) : Fst m O p 0
  | on (p : SetTable.Probe) (n : Nat) (h : O p.j) (t : Fst m O (adv m p) n) : Fst m O p (n + 1)
theorem fst_of (m : Nat) (O : Nat → Prop) : ∀ (n : Nat) (p : SetTable.Probe), ¬ O (advs m n p).j → ∃ k, k ≤ n ∧ Fst m O p k
  | 0, p, h => ⟨0, Nat.le_refl _, .here p h⟩
  | n + 1, p, h => by
    by_cases q : O p.j
    · obtain ⟨k, k1, k2⟩ := fst_of m O n (adv m p) h
      exact ⟨k + 1, by omega, .on p k q k2⟩
    · exact ⟨0, by omega, .here p q⟩
theorem fst_ex {m : Nat} (h : Good m) (O : Nat → Prop) {e : Nat} (he : e ≤ m) (hO : ¬ O e) (hs : Int) : ∃ k, k < 10 * SetTable.turns m ∧ Fst m O (mkp m (SetTable.bits hs % (m + 1), SetTable.bits hs)) k := by
  have hb : SetTable.bits hs < 2 ^ 64 := by
    unfold SetTable.bits
    have h0 : 0 ≤ hs % (2 ^ 64 : Int) := Int.emod_nonneg _ (by decide)
    have h1 : hs % (2 ^ 64 : Int) < 2 ^ 64 := Int.emod_lt_of_pos _ (by decide)
    omega
  have hi : SetTable.bits hs % (m + 1) ≤ m := by have := Nat.mod_lt (SetTable.bits hs) (show 0 < m + 1 by omega); omega
  obtain ⟨k, k1, k2⟩ := lps_meet h (q := (SetTable.bits hs % (m + 1), SetTable.bits hs)) hi hb he
  obtain ⟨n, n1, n2⟩ := leaps m k (SetTable.bits hs % (m + 1), SetTable.bits hs)
  obtain ⟨j, j1, j2⟩ := fst_of m O n (mkp m (SetTable.bits hs % (m + 1), SetTable.bits hs)) (by rw [n2]; show ¬ O (lps m k _).1; rw [k2]; exact hO)
  refine ⟨j, ?_, j2⟩
  unfold SetTable.turns
  omega
/-- a way through taken slots to a slot -/
inductive Pth (m : Nat) (O : Nat → Prop) : SetTable.Probe → Nat → Prop where
  | here (p : SetTable.Probe) : Pth m O p p.j
  | on (p : SetTable.Probe) (j : Nat) (h : O p.j) (t : Pth m O (adv m p) j) : Pth m O p j
theorem Pth.mono {m : Nat} {O O' : Nat → Prop} (k : ∀ j, O j → O' j) {p : SetTable.Probe} {j : Nat} (h : Pth m O p j) : Pth m O' p j := by
  induction h with
  | here p => exact .here p
  | on p j h t ih => exact .on p j (k _ h) ih
end HSet

set_option maxRecDepth 100000
set_option maxHeartbeats 4000000
set_option linter.all false
namespace HSet
open PySem
def Oc (t : SetTable) (j : Nat) : Prop := j ∈ t.place.toList
/-- every entry can be come to -/
def Rch {α : Type} (t : SetTable) (es : List (Int × α)) : Prop := ∀ j e, (j, e) ∈ t.place.toList.zip es → Pth t.mask (Oc t) (t.probeStart e.1) j
theorem insertAt_toList {α : Type} (xs : Array α) (p : Nat) (x : α) (hp : p ≤ xs.size) : (SetTable.insertAt xs p x).toList = xs.toList.take p ++ x :: xs.toList.drop p := by
  unfold SetTable.insertAt
  rw [Array.toList_append, Array.toList_push, Array.toList_extract, Array.toList_extract]
  simp [List.extract_eq_drop_take, List.append_assoc]
  exact List.take_of_length_le (by rw [List.length_drop, Array.length_toList]; omega)
theorem put_tb {t : SetTable} {n : Nat} (h : Tb t n) {f : Nat} (f8 : f ≤ t.mask) (hf : f ∉ t.place.toList) : Tb (t.put f).1 (n + 1) := by
  obtain ⟨b1, b2, b3⟩ := below_spec h.ris f
  unfold SetTable.put
  rw [h.dum, has_nil]
  simp only [Bool.false_eq_true, if_false]
  have tl := insertAt_toList t.place (SetTable.below t.place f) f b1
  refine ⟨h.mask, rfl, ?_, ?_, ?_⟩
  · rw [← Array.length_toList]
    dsimp only
    rw [tl, List.length_append, List.length_cons, List.length_take, List.length_drop, Array.length_toList]
    have := h.size
    omega
  · dsimp only
    rw [tl]
    have hd := h.ris
    rw [← List.take_append_drop (SetTable.below t.place f) t.place.toList] at hd
    obtain ⟨h1, h2, h3⟩ := List.pairwise_append.mp hd
    have up : ∀ v ∈ t.place.toList.drop (SetTable.below t.place f), f < v := fun v hv => by
      obtain ⟨i, hi⟩ := List.getElem?_of_mem hv
      rw [List.getElem?_drop, Array.getElem?_toList] at hi
      have := b3 _ v (by omega) hi
      have hne : f ≠ v := fun e => hf (by
        rw [e]
        exact List.mem_of_getElem? (i := SetTable.below t.place f + i) (by rw [Array.getElem?_toList]; exact hi))
      omega
    have lo : ∀ v ∈ t.place.toList.take (SetTable.below t.place f), v < f := fun v hv => by
      obtain ⟨i, hi⟩ := List.getElem?_of_mem hv
      have hl := (List.getElem?_eq_some_iff.mp hi).1
      rw [List.length_take] at hl
      rw [List.getElem?_take_of_lt (by omega), Array.getElem?_toList] at hi
      exact b2 i v (by omega) hi
    refine List.pairwise_append.mpr ⟨h1, List.pairwise_cons.mpr ⟨up, h2⟩, fun a ha b hb => ?_⟩
    rcases List.mem_cons.mp hb with rfl | hb
    · exact lo a ha
    · have := lo a ha; have := up b hb; omega
  · dsimp only
    rw [tl]
    intro j hj
    rcases List.mem_append.mp hj with m | m
    · exact h.lt j (List.mem_of_mem_take m)
    · rcases List.mem_cons.mp m with rfl | m
      · exact f8
      · exact h.lt j (List.mem_of_mem_drop m)
theorem put_ok {t : SetTable} {es : Array (Int × Value)} (h : Tb t es.size) (r : Rch t es.toList) {f : Nat} (f8 : f ≤ t.mask) (hf : f ∉ t.place.toList) {e : Int × Value} (pf : Pth t.mask (Oc t) (t.probeStart e.1) f) :
    Rch (t.put f).1 (SetTable.insertAt es (t.put f).2 e).toList ∧ (SetTable.insertAt es (t.put f).2 e).toList.Perm (e :: es.toList) ∧ (SetTable.insertAt es (t.put f).2 e).size = es.size + 1 := by
  obtain ⟨b1, b2, b3⟩ := below_spec h.ris f
  have tl := insertAt_toList t.place (SetTable.below t.place f) f b1
  have el := insertAt_toList es (SetTable.below t.place f) e (by rw [← h.size]; exact b1)
  have hp : (t.put f).2 = SetTable.below t.place f := rfl
  have hpl : (t.put f).1.place.toList = t.place.toList.take (SetTable.below t.place f) ++ f :: t.place.toList.drop (SetTable.below t.place f) := tl
  have oc : ∀ j, Oc t j → Oc (t.put f).1 j := fun j hj => by
    unfold Oc at hj ⊢
    rw [hpl]
    rw [← List.take_append_drop (SetTable.below t.place f) t.place.toList] at hj
    rcases List.mem_append.mp hj with z | z
    · exact List.mem_append_left _ z
    · exact List.mem_append_right _ (List.mem_cons_of_mem _ z)
  have hl : (t.place.toList.take (SetTable.below t.place f)).length = (es.toList.take (SetTable.below t.place f)).length := by
    rw [List.length_take, List.length_take, Array.length_toList, Array.length_toList, h.size]
  have perm : (SetTable.insertAt es (t.put f).2 e).toList.Perm (e :: es.toList) := by
    rw [hp, el]
    refine List.perm_middle.trans ?_
    rw [List.take_append_drop]
  refine ⟨fun j e' hm => ?_, perm, ?_⟩
  · rw [hp, el, hpl, List.zip_append hl, List.zip_cons_cons] at hm
    show Pth t.mask (Oc (t.put f).1) (t.probeStart e'.1) j
    have old : ∀ q, q ∈ t.place.toList.zip es.toList → Pth t.mask (Oc (t.put f).1) (t.probeStart q.2.1) q.1 := fun q hq => (r q.1 q.2 hq).mono oc
    have hz : t.place.toList.zip es.toList = (t.place.toList.take (SetTable.below t.place f)).zip (es.toList.take (SetTable.below t.place f)) ++ (t.place.toList.drop (SetTable.below t.place f)).zip (es.toList.drop (SetTable.below t.place f)) := by
      rw [← List.zip_append hl, List.take_append_drop, List.take_append_drop]
    rcases List.mem_append.mp hm with z | z
    · exact old (j, e') (by rw [hz]; exact List.mem_append_left _ z)
    · rcases List.mem_cons.mp z with z | z
      · injection z with z1 z2
        rw [z1, z2]
        exact pf.mono oc
      · exact old (j, e') (by rw [hz]; exact List.mem_append_right _ z)
  · have := perm.length_eq
    rw [Array.length_toList, List.length_cons, Array.length_toList] at this
    exact this
/-! ### the table laid anew -/
def Ow (owner : Array (Option Nat)) (j : Nat) : Prop := (owner.getD j none).isSome = true
theorem run_pth {m : Nat} {O : Nat → Prop} : ∀ (k : Nat) (p : SetTable.Probe), k ≤ p.more → (∀ q, q < k → O (p.j + q)) → Pth m O p (p.j + k)
  | 0, p, _, _ => .here p
  | k + 1, p, h, hO => by
    have e : adv m p = { p with j := p.j + 1, more := p.more - 1 } := by
      unfold adv
      rw [if_pos (by omega)]
    refine .on p _ (hO 0 (by omega)) ?_
    have := run_pth (m := m) (O := O) k (adv m p) (by rw [e]; dsimp only; omega) fun q hq => by
      rw [e]
      dsimp only
      have := hO (q + 1) (by omega)
      rwa [show p.j + (q + 1) = p.j + 1 + q by omega] at this
    rw [e] at this ⊢
    dsimp only at this
    rwa [show p.j + 1 + k = p.j + (k + 1) by omega] at this
theorem run_all {m : Nat} {O : Nat → Prop} {j : Nat} : ∀ (r : Nat) (p : SetTable.Probe), p.more = r → p.dummy = none → (∀ q, q ≤ r → O (p.j + q)) → Pth m O (mkp m (SetTable.leap m p.i p.perturb)) j → Pth m O p j
  | 0, p, h, d, hO, t => by
    refine .on p _ (hO 0 (by omega)) ?_
    have e : adv m p = mkp m (SetTable.leap m p.i p.perturb) := by
      unfold adv
      rw [if_neg (by omega), d]
      rfl
    rw [e]; exact t
  | r + 1, p, h, d, hO, t => by
    have e : adv m p = { p with j := p.j + 1, more := p.more - 1 } := by
      unfold adv
      rw [if_pos (by omega)]
    refine .on p _ (hO 0 (by omega)) (run_all r (adv m p) (by rw [e]; dsimp only; omega) (by rw [e]; exact d) (fun q hq => ?_) (by rw [e]; exact t))
    rw [e]
    dsimp only
    have := hO (q + 1) (by omega)
    rwa [show p.j + (q + 1) = p.j + 1 + q by omega] at this
theorem free_ok {m : Nat} {owner : Array (Option Nat)} (hsz : owner.size = m + 1) : ∀ (fuel i u : Nat), i ≤ m → (∃ k, k < fuel ∧ ¬ Ow owner (lps m k (i, u)).1) →
    ∃ j, SetTable.layClean.free m owner fuel i u = some j ∧ j ≤ m ∧ ¬ Ow owner j ∧ Pth m (Ow owner) (mkp m (i, u)) j
  | 0, i, u, hi, ⟨k, hk, _⟩ => by omega
  | fuel + 1, i, u, hi, ⟨k, hk, hO⟩ => by
    have hre : SetTable.runEnd m i ≤ m := by
      unfold SetTable.runEnd
      split <;> omega
    have hri : i ≤ SetTable.runEnd m i := by
      unfold SetTable.runEnd
      split <;> omega
    have gd : ∀ j, j ≤ m → ((owner.getD j (some 0)).isNone = true ↔ ¬ Ow owner j) := fun j hj => by
      have hlt : j < owner.size := by omega
      unfold Ow
      simp only [Array.getD, hlt, dif_pos]
      cases owner.getInternal j hlt <;> simp
    unfold SetTable.layClean.free
    cases q : (List.range (SetTable.runEnd m i + 1 - i)).find? fun k => (owner.getD (i + k) (some 0)).isNone with
    | some r =>
      dsimp only
      obtain ⟨q1, q2, q3⟩ := List.find?_range_eq_some.mp q
      have hr := List.mem_range.mp q2
      refine ⟨i + r, rfl, by omega, (gd _ (by omega)).mp q1, ?_⟩
      refine run_pth (m := m) (O := Ow owner) r (mkp m (i, u)) (by show r ≤ SetTable.runEnd m i - i; omega) fun z hz => ?_
      have := q3 z hz
      show Ow owner (i + z)
      rcases Classical.em (Ow owner (i + z)) with w | w
      · exact w
      · rw [(gd _ (by omega)).mpr w] at this
        exact absurd this (by simp)
    | none =>
      dsimp only
      have q := List.find?_range_eq_none.mp q
      have all : ∀ z, z ≤ SetTable.runEnd m i - i → Ow owner (i + z) := fun z hz => by
        have := q z (by omega)
        rcases Classical.em (Ow owner (i + z)) with w | w
        · exact w
        · rw [(gd _ (by omega)).mpr w] at this
          exact absurd this (by simp)
      cases k with
      | zero => exact absurd (all 0 (by omega)) hO
      | succ k =>
        obtain ⟨j, j1, j2, j3, j4⟩ := free_ok hsz fuel (SetTable.leap m i u).1 (SetTable.leap m i u).2 (lps_le m 1 (i, u) hi) ⟨k, by omega, hO⟩
        exact ⟨j, j1, j2, j3, run_all _ (mkp m (i, u)) rfl rfl all j4⟩
/-- so many were laid -/
structure Own (m : Nat) (hs : List Int) (owner : Array (Option Nat)) : Prop where
  size : owner.size = m + 1
  perm : ((List.range (m + 1)).filterMap fun j => owner.getD j none).Perm (List.range hs.length)
  pth : ∀ j i h, owner.getD j none = some i → hs[i]? = some h → Pth m (Ow owner) (mkp m (SetTable.bits h % (m + 1), SetTable.bits h)) j
theorem fm_congr {α β : Type} {f g : α → Option β} : ∀ {l : List α}, (∀ a ∈ l, f a = g a) → l.filterMap f = l.filterMap g
  | [], _ => rfl
  | a :: l, h => by
    rw [List.filterMap_cons, List.filterMap_cons, h a List.mem_cons_self, fm_congr fun b hb => h b (List.mem_cons_of_mem _ hb)]
theorem fm_set {f g : Nat → Option Nat} {j k : Nat} (hj : f j = none) (hg : g j = some k) (ne : ∀ i, i ≠ j → g i = f i) : ∀ (l : List Nat), l.Nodup → j ∈ l → (l.filterMap g).Perm (k :: l.filterMap f)
  | [], _, h => by cases h
  | a :: l, hn, h => by
    rw [List.nodup_cons] at hn
    rcases List.mem_cons.mp h with e | h
    · subst e
      rw [List.filterMap_cons, List.filterMap_cons, hj, hg]
      dsimp only
      have : l.filterMap g = l.filterMap f := fm_congr fun b hb => ne b fun z => hn.1 (z ▸ hb)
      rw [this]
    · have ha : a ≠ j := fun z => hn.1 (z ▸ h)
      rw [List.filterMap_cons, List.filterMap_cons, ne a ha]
      have ih := fm_set hj hg ne l hn.2 h
      cases f a with
      | none => exact ih
      | some b => exact (ih.cons b).trans (List.Perm.swap _ _ _)
theorem own_step {m : Nat} (hm : Good m) {hs : List Int} {owner : Array (Option Nat)} (o : Own m hs owner) (hl : hs.length ≤ m) (h : Int) :
    ∃ j, SetTable.layClean.free m owner (SetTable.turns m) (SetTable.bits h % (m + 1)) (SetTable.bits h) = some j ∧ Own m (hs ++ [h]) (owner.setIfInBounds j (some hs.length)) := by
  have hb : SetTable.bits h < 2 ^ 64 := by
    unfold SetTable.bits
    have h0 : 0 ≤ h % (2 ^ 64 : Int) := Int.emod_nonneg _ (by decide)
    have h1 : h % (2 ^ 64 : Int) < 2 ^ 64 := Int.emod_lt_of_pos _ (by decide)
    omega
  have hi : SetTable.bits h % (m + 1) ≤ m := by have := Nat.mod_lt (SetTable.bits h) (show 0 < m + 1 by omega); omega
  have ex : ∃ e, e ≤ m ∧ ¬ Ow owner e := by
    rcases Classical.em (∃ e, e ≤ m ∧ ¬ Ow owner e) with q | q
    · exact q
    · exfalso
      have all : ∀ a ∈ List.range (m + 1), (owner.getD a none).isSome = true := fun a ha => by
        rcases Classical.em (Ow owner a) with w | w
        · exact w
        · exact absurd ⟨a, by have := List.mem_range.mp ha; omega, w⟩ q
      have := List.filterMap_length_eq_length.mpr all
      rw [o.perm.length_eq, List.length_range, List.length_range] at this
      omega
  obtain ⟨e, e1, e2⟩ := ex
  obtain ⟨k, k1, k2⟩ := lps_meet hm (q := (SetTable.bits h % (m + 1), SetTable.bits h)) hi hb e1
  obtain ⟨j, j1, j2, j3, j4⟩ := free_ok o.size (SetTable.turns m) _ _ hi ⟨k, by unfold SetTable.turns; omega, by rw [k2]; exact e2⟩
  have hjs : j < owner.size := by rw [o.size]; omega
  have gj : (owner.setIfInBounds j (some hs.length)).getD j none = some hs.length := by
    simp [Array.getD, hjs]
  have gn : ∀ i, i ≠ j → (owner.setIfInBounds j (some hs.length)).getD i none = owner.getD i none := fun i hi => by
    rw [Array.getD_eq_getD_getElem?, Array.getD_eq_getD_getElem?, Array.getElem?_setIfInBounds_ne (Ne.symm hi)]
  have oj : owner.getD j none = none := by
    unfold Ow at j3
    simpa using j3
  have up : ∀ i, Ow owner i → Ow (owner.setIfInBounds j (some hs.length)) i := fun i hi => by
    unfold Ow at hi ⊢
    by_cases e : i = j
    · rw [e, gj]; rfl
    · rw [gn i e]; exact hi
  have lt : ∀ i k, owner.getD i none = some k → k < hs.length := fun i k hk => by
    have hi : i ∈ List.range (m + 1) := by
      rw [List.mem_range, ← o.size]
      by_cases hlt : i < owner.size
      · exact hlt
      · rw [Array.getD_eq_getD_getElem?, Array.getElem?_eq_none (by omega)] at hk
        cases hk
    exact List.mem_range.mp (o.perm.mem_iff.mp (List.mem_filterMap.mpr ⟨i, hi, hk⟩))
  refine ⟨j, j1, by rw [Array.size_setIfInBounds]; exact o.size, ?_, fun j' i h' e1 e2 => ?_⟩
  · refine (fm_set (f := fun j => owner.getD j none) (k := hs.length) oj gj gn _ List.nodup_range (List.mem_range.mpr (by omega))).trans ?_
    rw [List.length_append, List.length_singleton, List.range_succ (n := hs.length)]
    exact (o.perm.cons _).trans (List.perm_append_comm (l₁ := [hs.length]))
  · by_cases e : j' = j
    · rw [e, gj] at e1
      injection e1 with e1
      rw [← e1, List.getElem?_append_right (Nat.le_refl _), Nat.sub_self] at e2
      simp at e2
      rw [e, ← e2]
      exact j4.mono up
    · rw [gn j' e] at e1
      have := lt _ _ e1
      rw [List.getElem?_append_left this] at e2
      exact (o.pth j' i h' e1 e2).mono up
theorem own_nil (m : Nat) : Own m [] (Array.replicate (m + 1) none) := by
  have g : ∀ j, (Array.replicate (m + 1) (none : Option Nat)).getD j none = none := fun j => by
    rw [Array.getD_eq_getD_getElem?, Array.getElem?_replicate]
    split <;> rfl
  refine ⟨by simp, ?_, fun j i h e1 e2 => by rw [g] at e1; cases e1⟩
  have : (List.range (m + 1)).filterMap (fun j => (Array.replicate (m + 1) (none : Option Nat)).getD j none) = [] := by
    rw [List.filterMap_eq_nil_iff]
    exact fun a _ => g a
  rw [this]
  exact List.Perm.refl _
def layStep (m : Nat) (acc : Option (Array (Option Nat) × Nat)) (h : Int) : Option (Array (Option Nat) × Nat) := do
    let (owner, k) ← acc
    let j ← SetTable.layClean.free m owner (SetTable.turns m) (SetTable.bits h % (m + 1)) (SetTable.bits h)
    pure (owner.setIfInBounds j (some k), k + 1)
theorem lay_fold {m : Nat} (hm : Good m) : ∀ (rest hs : List Int) (owner : Array (Option Nat)), Own m hs owner → (hs ++ rest).length ≤ m → ∃ owner', rest.foldl (layStep m) (some (owner, hs.length)) = some (owner', (hs ++ rest).length) ∧ Own m (hs ++ rest) owner'
  | [], hs, owner, o, _ => ⟨owner, by rw [List.append_nil]; rfl, by rw [List.append_nil]; exact o⟩
  | h :: rest, hs, owner, o, hl => by
    have hl' : hs.length ≤ m := by rw [List.length_append, List.length_cons] at hl; omega
    obtain ⟨j, j1, j2⟩ := own_step hm o hl' h
    have e : hs ++ h :: rest = (hs ++ [h]) ++ rest := by rw [List.append_assoc]; rfl
    rw [e] at hl ⊢
    obtain ⟨owner', o1, o2⟩ := lay_fold hm rest (hs ++ [h]) _ j2 hl
    refine ⟨owner', ?_, o2⟩
    rw [List.foldl_cons]
    have : layStep m (some (owner, hs.length)) h = some (owner.setIfInBounds j (some hs.length), (hs ++ [h]).length) := by
      unfold layStep
      dsimp only [bind, Option.bind]
      rw [j1, List.length_append, List.length_singleton]
      rfl
    rw [this]
    exact o1
theorem clean_ok {m : Nat} (hm : Good m) (hashes : Array Int) (hl : hashes.size ≤ m) : ∃ owner, SetTable.layClean m hashes = some owner ∧ Own m hashes.toList owner := by
  obtain ⟨owner, o1, o2⟩ := lay_fold hm hashes.toList [] _ (own_nil m) (by simpa using hl)
  refine ⟨owner, ?_, o2⟩
  unfold SetTable.layClean
  rw [← Array.foldl_toList]
  have : hashes.toList.foldl (layStep m) (some (Array.replicate (m + 1) none, 0)) = some (owner, ([] ++ hashes.toList).length) := o1
  show (hashes.toList.foldl (layStep m) (some (Array.replicate (m + 1) none, 0))).map (·.1) = some owner
  rw [this]
  rfl
theorem zip_fm {α β γ : Type} {f : α → β} {g : α → Option γ} {b : β} {c : γ} : ∀ (l : List α), (∀ q ∈ l, (g q).isSome = true) → (b, c) ∈ (l.map f).zip (l.filterMap g) → ∃ q ∈ l, f q = b ∧ g q = some c
  | [], _, h => by cases h
  | a :: l, ha, h => by
    obtain ⟨d, hd⟩ := Option.isSome_iff_exists.mp (ha a List.mem_cons_self)
    rw [List.map_cons, List.filterMap_cons, hd] at h
    dsimp only at h
    rw [List.zip_cons_cons] at h
    rcases List.mem_cons.mp h with e | h
    · injection e with e1 e2
      exact ⟨a, List.mem_cons_self, e1.symm, by rw [hd, e2]⟩
    · obtain ⟨q, q1, q2⟩ := zip_fm l (fun q hq => ha q (List.mem_cons_of_mem _ hq)) h
      exact ⟨q, List.mem_cons_of_mem _ q1, q2⟩
/-- the whole table laid anew -/
theorem relaid_ok {t : SetTable} {es : Array (Int × Value)} {wanted : Nat} (hm : Good (SetTable.sizeAbove wanted - 1)) (hl : es.size ≤ SetTable.sizeAbove wanted - 1) :
    ∃ t' order, t.relaid (es.map (·.1)) wanted = some (t', order) ∧ t'.mask = SetTable.sizeAbove wanted - 1 ∧ t'.led = t.led ∧ t'.plain = t.plain ∧ Tb t' es.size ∧ (order.filterMap (es[·]?)).toList.Perm es.toList ∧ Rch t' (order.filterMap (es[·]?)).toList := by
  generalize hM : SetTable.sizeAbove wanted - 1 = m at *
  obtain ⟨owner, o1, o⟩ := clean_ok hm (es.map (·.1)) (by rw [Array.size_map]; exact hl)
  have hlen : (es.map (·.1)).toList.length = es.size := by simp
  let live := (List.range (m + 1)).filterMap fun j => (owner.getD j none).map (j, ·)
  have live2 : live.map (·.2) = (List.range (m + 1)).filterMap fun j => owner.getD j none := by
    show ((List.range (m + 1)).filterMap fun j => (owner.getD j none).map (j, ·)).map (·.2) = _
    rw [List.map_filterMap]
    refine fm_congr fun a _ => ?_
    cases owner.getD a none <;> rfl
  have perm2 : (live.map (·.2)).Perm (List.range es.size) := by rw [live2, ← hlen]; exact o.perm
  have mem : ∀ q, q ∈ live → q.1 ≤ m ∧ owner.getD q.1 none = some q.2 := fun q hq => by
    obtain ⟨j, j1, j2⟩ := List.mem_filterMap.mp hq
    have := List.mem_range.mp j1
    cases e : owner.getD j none with
    | none => rw [e] at j2; cases j2
    | some k =>
      rw [e] at j2
      cases j2
      exact ⟨by dsimp only; omega, e⟩
  have lt : ∀ q, q ∈ live → q.2 < es.size := fun q hq => List.mem_range.mp (perm2.mem_iff.mp (List.mem_map_of_mem hq))
  have som : ∀ q ∈ live, (es.toList[q.2]?).isSome = true := fun q hq => by
    rw [List.getElem?_eq_getElem (by rw [Array.length_toList]; exact lt q hq)]
    rfl
  refine ⟨{ mask := m, place := (live.map (·.1)).toArray, dummies := #[], finger := t.finger, led := t.led, moves := t.movedTo m, plain := t.plain }, (live.map (·.2)).toArray, ?_, rfl, rfl, rfl, ⟨hm, rfl, ?_, ?_, ?_⟩, ?_, ?_⟩
  · unfold SetTable.relaid SetTable.laid
    rw [hM, o1]
    rfl
  · dsimp only
    have := perm2.length_eq
    rw [List.length_map, List.length_range] at this
    rw [List.size_toArray, List.length_map]
    exact this
  · dsimp only
    rw [List.pairwise_map]
    refine List.pairwise_filterMap.mpr (List.pairwise_lt_range.imp fun {a b} hab c hc d hd => ?_)
    cases ea : owner.getD a none with
    | none => rw [ea] at hc; cases hc
    | some k =>
      cases eb : owner.getD b none with
      | none => rw [eb] at hd; cases hd
      | some k' =>
        rw [ea] at hc; rw [eb] at hd
        cases hc; cases hd
        exact hab
  · dsimp only
    intro j hj
    obtain ⟨q, q1, rfl⟩ := List.mem_map.mp hj
    exact (mem q q1).1
  · have e : (((live.map (·.2)).toArray).filterMap (es[·]?)).toList = (live.map (·.2)).filterMap (es.toList[·]?) := by
      rw [Array.toList_filterMap]
      exact fm_congr fun a _ => (Array.getElem?_toList).symm
    rw [e]
    refine (perm2.filterMap _).trans ?_
    have : (List.range es.size).filterMap (es.toList[·]?) = es.toList := by
      refine List.ext_getElem? fun i => ?_
      have e2 : (List.range es.size).filterMap (es.toList[·]?) = (List.range es.size).attach.map fun i => es.toList[i.1]'(by have := List.mem_range.mp i.2; simpa using this) := by
        conv => lhs; rw [← List.attach_map_subtype_val (List.range es.size)]
        rw [List.filterMap_map]
        rw [← List.filterMap_eq_map]
        refine fm_congr fun a _ => ?_
        have := List.mem_range.mp a.2
        show es.toList[a.1]? = _
        rw [List.getElem?_eq_getElem (by simpa using this)]
        rfl
      rw [e2, List.getElem?_map]
      by_cases hi : i < es.size
      · rw [List.getElem?_eq_getElem (by simpa using hi), List.getElem?_eq_getElem (by simpa using hi)]
        simp
      · rw [List.getElem?_eq_none (by simpa using hi), List.getElem?_eq_none (by simpa using hi)]
        rfl
    rw [this]
  · have e : (((live.map (·.2)).toArray).filterMap (es[·]?)).toList = live.filterMap (fun q => es.toList[q.2]?) := by
      rw [Array.toList_filterMap]
      show (live.map (·.2)).filterMap (es[·]?) = _
      rw [List.filterMap_map]
      exact fm_congr fun a _ => (Array.getElem?_toList).symm
    rw [e]
    intro j ent hj
    have hj : (j, ent) ∈ (live.map (·.1)).zip (live.filterMap (fun q => es.toList[q.2]?)) := hj
    obtain ⟨q, q1, q2, q3⟩ := zip_fm live som hj
    obtain ⟨m1, m2⟩ := mem q q1
    show Pth m (Oc _) (mkp m (SetTable.bits ent.1 % (m + 1), SetTable.bits ent.1)) j
    rw [← q2]
    refine (o.pth q.1 q.2 ent.1 m2 ?_).mono fun i hi => ?_
    · rw [Array.toList_map, List.getElem?_map, q3]
      rfl
    · unfold Ow at hi
      obtain ⟨k, hk⟩ := Option.isSome_iff_exists.mp hi
      show i ∈ live.map (·.1)
      have hir : i ∈ List.range (m + 1) := by
        rw [List.mem_range, ← o.size]
        by_cases hlt : i < owner.size
        · exact hlt
        · rw [Array.getD_eq_getD_getElem?, Array.getElem?_eq_none (by omega)] at hk
          cases hk
      exact List.mem_map.mpr ⟨(i, k), List.mem_filterMap.mpr ⟨i, hir, by rw [hk]; rfl⟩, rfl⟩
end HSet

set_option maxRecDepth 100000
set_option maxHeartbeats 4000000
set_option linter.all false
namespace HSet
open PySem
/-- a search within the table -/
structure Vp (m : Nat) (p : SetTable.Probe) : Prop where
  jm : p.j + p.more ≤ m
  i : p.i ≤ m
  dum : p.dummy = none
theorem vp_mkp {m : Nat} {q : Nat × Nat} (h : q.1 ≤ m) : Vp m (mkp m q) := by
  refine ⟨?_, h, rfl⟩
  unfold mkp SetTable.runEnd
  dsimp only
  split <;> omega
theorem Vp.adv {m : Nat} {p : SetTable.Probe} (v : Vp m p) : Vp m (adv m p) := by
  unfold HSet.adv
  split
  · exact ⟨by have := v.jm; dsimp only; omega, v.i, v.dum⟩
  · rw [v.dum]
    exact vp_mkp (by unfold SetTable.leap; dsimp only; have := Nat.mod_lt (p.i * 5 + 1 + p.perturb / 32) (show 0 < m + 1 by omega); omega)
theorem place_inj {t : SetTable} {n : Nat} (h : Tb t n) {i i' j : Nat} (e : t.place[i]? = some j) (e' : t.place[i']? = some j) : i = i' := by
  rw [← Array.getElem?_toList] at e e'
  obtain ⟨l1, q1⟩ := List.getElem?_eq_some_iff.mp e
  obtain ⟨l2, q2⟩ := List.getElem?_eq_some_iff.mp e'
  have hp := List.pairwise_iff_getElem.mp h.ris
  rcases Nat.lt_trichotomy i i' with z | z | z
  · have := hp i i' l1 l2 z; omega
  · exact z
  · have := hp i' i l2 l1 z; omega
/-- what a search tells -/
theorem go_out {t : SetTable} {n : Nat} (tb : Tb t n) (hashAt : Nat → Int) (h : Int) : ∀ {p : SetTable.Probe} {N : Nat}, Fst t.mask (Oc t) p N → Vp t.mask p → ∀ fuel, N < fuel →
    (∃ f, SetTable.probe.go t hashAt h fuel p = some (.empty f none) ∧ f ≤ t.mask ∧ f ∉ t.place.toList ∧ Pth t.mask (Oc t) p f ∧ ∀ j i, Pth t.mask (Oc t) p j → t.place[i]? = some j → hashAt i = h → False) ∨
    (∃ p' i N', SetTable.probe.go t hashAt h fuel p = some (.candidate p'.j i (adv t.mask p')) ∧ t.place[i]? = some p'.j ∧ t.slot p'.j = .live i ∧ hashAt i = h ∧ Fst t.mask (Oc t) (adv t.mask p') N' ∧ N' < N ∧ Vp t.mask (adv t.mask p') ∧
      (∀ j i', Pth t.mask (Oc t) p j → t.place[i']? = some j → hashAt i' = h → j = p'.j ∨ Pth t.mask (Oc t) (adv t.mask p') j) ∧ (∀ f, Pth t.mask (Oc t) (adv t.mask p') f → Pth t.mask (Oc t) p f)) := by
  intro p N F
  induction F with
  | here p hO =>
    intro v fuel hf
    cases fuel with
    | zero => omega
    | succ fuel =>
      left
      have es : t.slot p.j = .empty := by
        rcases slot_of tb p.j with ⟨_, e⟩ | ⟨e, _⟩
        · exact e
        · exact absurd e hO
      refine ⟨p.j, ?_, by have := v.jm; omega, hO, .here p, fun j i hp hi _ => ?_⟩
      · unfold SetTable.probe.go
        rw [es]
        dsimp only
        rw [v.dum]
      · have hj : j ∈ t.place.toList := by rw [← Array.getElem?_toList] at hi; exact List.mem_of_getElem? hi
        cases hp with
        | here => exact hO hj
        | on _ _ z _ => exact hO z
  | on p N hO F ih =>
    intro v fuel hf
    cases fuel with
    | zero => omega
    | succ fuel =>
      obtain ⟨i, es, ei⟩ : ∃ i, t.slot p.j = .live i ∧ t.place[i]? = some p.j := by
        rcases slot_of tb p.j with ⟨e, _⟩ | ⟨_, e⟩
        · exact absurd hO e
        · exact e
      unfold SetTable.probe.go
      rw [es]
      dsimp only
      by_cases eh : hashAt i = h
      · right
        rw [if_pos (by rw [eh]; exact beq_self_eq_true _)]
        refine ⟨p, i, N, rfl, ei, es, eh, F, Nat.lt_succ_self _, v.adv, fun j i' hp hi hh => ?_, fun f hf => .on p f hO hf⟩
        cases hp with
        | here => exact .inl rfl
        | on _ _ z k => exact .inr k
      · rw [if_neg (by simpa using eh)]
        rcases ih v.adv fuel (by omega) with ⟨f, f1, f2, f3, f4, f5⟩ | ⟨p', i', N', c1, c2, c3, c4, c5, c6, c7, c8, c9⟩
        · refine .inl ⟨f, f1, f2, f3, .on p f hO f4, fun j k hp hk hh => ?_⟩
          cases hp with
          | here =>
            have := place_inj tb hk ei
            rw [this] at hh
            exact eh hh
          | on _ _ z q => exact f5 j k q hk hh
        · refine .inr ⟨p', i', N', c1, c2, c3, c4, c5, by omega, c7, fun j k hp hk hh => ?_, fun f hf => .on p f hO (c9 f hf)⟩
          cases hp with
          | here =>
            have := place_inj tb hk ei
            rw [this] at hh
            exact absurd hh eh
          | on _ _ z q => exact c8 j k q hk hh
theorem zip_at {α : Type} {t : SetTable} {es : Array α} (hs : t.place.size = es.size) {i j : Nat} (e : t.place[i]? = some j) : ∃ x, es[i]? = some x ∧ (j, x) ∈ t.place.toList.zip es.toList := by
  have hi := (Array.getElem?_eq_some_iff.mp e).1
  have hi' : i < es.size := by omega
  refine ⟨es[i], Array.getElem?_eq_getElem hi', ?_⟩
  refine List.mem_of_getElem? (i := i) ?_
  rw [List.getElem?_zip_eq_some]
  exact ⟨by rw [Array.getElem?_toList]; exact e, by rw [Array.getElem?_toList]; exact Array.getElem?_eq_getElem hi'⟩
theorem at_zip {α : Type} {t : SetTable} {es : Array α} {j : Nat} {x : α} (h : (j, x) ∈ t.place.toList.zip es.toList) : ∃ i : Nat, t.place[i]? = some j ∧ es[i]? = some x := by
  obtain ⟨i, hi⟩ := List.getElem?_of_mem h
  rw [List.getElem?_zip_eq_some] at hi
  exact ⟨i, by rw [← Array.getElem?_toList]; exact hi.1, by rw [← Array.getElem?_toList]; exact hi.2⟩
theorem mem_zip {α : Type} {t : SetTable} {es : Array α} (hs : t.place.size = es.size) {x : α} (h : x ∈ es.toList) : ∃ j, (j, x) ∈ t.place.toList.zip es.toList := by
  obtain ⟨i, hi⟩ := List.getElem?_of_mem h
  have hl := (List.getElem?_eq_some_iff.mp hi).1
  rw [Array.length_toList] at hl
  refine ⟨t.place[i]'(by omega), List.mem_of_getElem? (i := i) ?_⟩
  rw [List.getElem?_zip_eq_some]
  exact ⟨by rw [Array.getElem?_toList]; exact Array.getElem?_eq_getElem (by omega), hi⟩
theorem odd_good {t : SetTable} {n : Nat} (h : Tb t n) : t.gaveWay = false := by
  unfold SetTable.gaveWay
  rcases h.mask with e | e | e | e <;> rw [e] <;> rfl
theorem fits_of {t : SetTable} {n : Nat} (h : Tb t n) (hn : n ≤ t.mask) : t.fits n = true := by
  unfold SetTable.fits SetTable.fill
  rw [h.size, h.dum]
  simp
  exact hn
end HSet

set_option maxRecDepth 100000
set_option maxHeartbeats 4000000
set_option linter.all false
namespace HSet
open PySem
section
variable {prog : Program} {w : World} {K : Type} [DecidableEq K] {knd : KeyKind prog w K} {A : Around} {E : Value → Shared → Prop} {s : Shared}
/-- an entry of a key -/
def ElH (knd : KeyKind prog w K) (h : Heap) (k : List K) (e : Int × Value) : Prop := ∃ b, e.2 = .ref b ∧ IsTupleKey knd h k b ∧ e.1 = tupleKeyHash knd k
theorem ElH.inj {h : Heap} {k k' : List K} {e : Int × Value} (h1 : ElH knd h k e) (h2 : ElH knd h k' e) : k = k' := by
  obtain ⟨b, e1, t1, _⟩ := h1
  obtain ⟨b', e2, t2, _⟩ := h2
  rw [e1] at e2
  injection e2 with e2
  subst e2
  exact t1.inj t2
theorem cls_not {d : Nat} {ks : List K} {x : Addr} {Q : Bool → Shared → Prop} (hx : IsTupleKey knd s.heap ks x) (h : Q false s) : wpAny (model prog w) A (ofAClassStatement (d + 1) (.ref x)) Q E s := by
  have hT := hx.typeIs
  obtain ⟨o, items, n, ho, hc, hd, hi⟩ := hx
  unfold ofAClassStatement
  refine wpAny_bind (wpAny_typeOf hT ?_)
  dsimp only
  rw [if_pos (by decide)]
  refine wpAny_bind (wpAny_pure ?_)
  simp only [Bool.not_true, Bool.false_eq_true, if_false]
  refine wpAny_bind (wpAny_seqItems ho hd ?_)
  dsimp only
  refine wpAny_bind ?_
  rw [← Array.forIn_toList]
  refine wpAny_forIn_list _ (fun rest r s' => r.1 = none ∧ s' = s ∧ ∀ v ∈ rest, carriedByValue v = true) _ ?_ ?_ _ _ ⟨rfl, rfl, hi.byValue⟩
  · rintro v rest r s' ⟨hr, rfl, hall⟩
    have hv := hall v List.mem_cons_self
    have e : ofAClassStatement d v = pure false := by
      cases v <;> first | (simp [carriedByValue] at hv; done) | (unfold ofAClassStatement; rfl) | rfl
    rw [e]
    refine wpAny_bind (wpAny_pure ?_)
    simp only [Bool.false_eq_true, if_false]
    exact wpAny_pure ⟨rfl, rfl, fun u hu' => hall u (List.mem_cons_of_mem _ hu')⟩
  · rintro ⟨r1, r2⟩ s' ⟨hr, rfl, _⟩
    simp only at hr
    subst hr
    exact wpAny_pure h
/-- nothing of the search shows -/
theorem seen_not {x : Addr} {ks : List K} (hx : IsTupleKey knd s.heap ks x) (l : List Value) {Q : Bool → Shared → Prop} (hl : ∀ y ∈ l, ∃ b k, y = .ref b ∧ IsTupleKey knd s.heap k b) (h : Q false s) : wpAny (model prog w) A (searchCouldBeSeen (.ref x) l) Q E s := by
  unfold searchCouldBeSeen
  refine wpAny_bind ?_
  refine wpAny_forIn_list _ (fun rest r s' => r.1 = none ∧ s' = s ∧ ∀ y ∈ rest, ∃ b k, y = .ref b ∧ IsTupleKey knd s.heap k b) _ ?_ ?_ _ _ ⟨rfl, rfl, hl⟩
  · rintro y rest r s' ⟨hr, rfl, hall⟩
    obtain ⟨b, k, rfl, hb⟩ := hall y List.mem_cons_self
    have done : ∀ z ∈ rest, ∃ b k, z = .ref b ∧ IsTupleKey knd s'.heap k b := fun u hu' => hall u (List.mem_cons_of_mem _ hu')
    dsimp only
    by_cases hv : (x == b || (carriedByValue (.ref x) && carriedByValue (.ref b))) = true
    · rw [if_pos hv]
      exact wpAny_pure ⟨rfl, rfl, done⟩
    · rw [if_neg hv]
      refine wpAny_bind (wpAny_eqIsQuiet_tuple hx ?_)
      simp only [Bool.not_true, Bool.false_eq_true, if_false]
      refine wpAny_bind (wpAny_eqIsQuiet_tuple hb ?_)
      simp only [Bool.not_true, Bool.false_eq_true, if_false]
      refine wpAny_bind (cls_not hx ?_)
      simp only [Bool.false_eq_true, if_false]
      refine wpAny_bind (cls_not hb ?_)
      simp only [Bool.false_eq_true, if_false]
      exact wpAny_pure ⟨rfl, rfl, done⟩
  · rintro ⟨r1, r2⟩ s' ⟨hr, rfl, _⟩
    simp only at hr
    subst hr
    exact wpAny_pure h
/-- whether the hashes come of values alone -/
theorem byVal {ks : List K} {x : Addr} {Q : Bool → Shared → Prop} (hx : IsTupleKey knd s.heap ks x) (h : ∀ b, Q b s) : wpAny (model prog w) A (hashByValue 8 (.ref x)) Q E s := by
  have hT := hx.typeIs
  obtain ⟨o, items, n, ho, hc, hd, hi⟩ := hx
  unfold hashByValue
  refine wpAny_bind (wpAny_specialOf hT F.slot_tuple_hash.lookup ?_)
  dsimp only
  refine wpAny_bind (wpAny_seqItems ho hd ?_)
  refine wpAny_bind ?_
  show wpAny _ _ (forIn items _ _) _ _ s
  rw [← Array.forIn_toList]
  refine wpAny_forIn_list _ (fun rest r s' => r.1 = none ∧ s' = s ∧ ∀ v ∈ rest, carriedByValue v = true) _ ?_ ?_ _ _ ⟨rfl, rfl, hi.byValue⟩
  · rintro v rest r s' ⟨hr, rfl, hall⟩
    have hv := hall v List.mem_cons_self
    have e : ∃ b, hashByValue 7 v = pure b := by
      cases v <;> first | (simp [carriedByValue] at hv; done) | exact ⟨_, by unfold hashByValue; rfl⟩ | exact ⟨_, rfl⟩
    obtain ⟨b, e⟩ := e
    rw [e]
    refine wpAny_bind (wpAny_pure ?_)
    cases b with
    | true =>
      simp only [Bool.not_true, Bool.false_eq_true, if_false]
      exact wpAny_pure ⟨rfl, rfl, fun u hu' => hall u (List.mem_cons_of_mem _ hu')⟩
    | false =>
      simp only [Bool.not_false, if_true]
      exact wpAny_pure (wpAny_pure (h _))
  · rintro ⟨r1, r2⟩ s' ⟨hr, rfl, _⟩
    simp only at hr
    subst hr
    exact wpAny_pure (h _)
end
end HSet

set_option maxRecDepth 100000
set_option maxHeartbeats 4000000
set_option linter.all false
namespace HSet
open PySem
section
variable {prog : Program} {w : World} {K : Type} [DecidableEq K] {knd : KeyKind prog w K} {A : Around} {E : Value → Shared → Prop} {s : Shared}
theorem search_ok {a b : Addr} {k : List K} {o : Obj} {es : Array (Int × Value)} {ep : Nat} {t : SetTable} (hu : A.units < cLine) (hb : IsTupleKey knd s.heap k b) (ho : s.heap.get? a = some o) (hd : o.data = .set es ep t) (tb : Tb t es.size) (hn : es.size ≤ t.mask)
    (hel : ∀ e ∈ es.toList, ∃ k', ElH knd s.heap k' e) {Q : SetFound → Shared → Prop} (h1 : (∃ e ∈ es.toList, ElH knd s.heap k e) → Q (.there none) s) :
    ∀ (fuel N : Nat) (st : Option SetTable.Probe), Fst t.mask (Oc t) (st.getD (t.probeStart (tupleKeyHash knd k))) N → Vp t.mask (st.getD (t.probeStart (tupleKeyHash knd k))) → N < fuel → N < 10 * SetTable.turns t.mask →
      (∀ j e, (j, e) ∈ t.place.toList.zip es.toList → ElH knd s.heap k e → Pth t.mask (Oc t) (st.getD (t.probeStart (tupleKeyHash knd k))) j) →
      ((¬ ∃ e ∈ es.toList, ElH knd s.heap k e) → ∀ f, f ≤ t.mask → f ∉ t.place.toList → Pth t.mask (Oc t) (st.getD (t.probeStart (tupleKeyHash knd k))) f → Q (.free f false) s) →
      wpAny (model prog w) A (setSearchFrom a (.ref b) (tupleKeyHash knd k) true fuel st) Q E s
  | 0, N, st, F, v, hf, hN, hm, h2 => by omega
  | fuel + 1, N, st, F, v, hf, hN, hm, h2 => by
    have fit := fits_of tb hn
    unfold setSearchFrom
    refine wpAny_bind (wpAny_setState_of ho hd fit ?_)
    dsimp only
    rw [odd_good tb]
    simp only [Bool.false_eq_true, if_false]
    generalize hH : tupleKeyHash knd k = H at *
    generalize hA : (fun i : Nat => (es[i]?.map (·.1)).getD 0) = hashAt
    have hash_at : ∀ (i : Nat) (e : Int × Value), es[i]? = some e → hashAt i = e.1 := fun i e he => by rw [← hA]; dsimp only; rw [he]; rfl
    have hp : ∀ (f : Nat → Int), f = hashAt → t.probe f H (st.getD (t.probeStart H)) = SetTable.probe.go t hashAt H (10 * SetTable.turns t.mask) (st.getD (t.probeStart H)) := fun f e => by rw [e]; rfl
    rcases go_out tb hashAt H F v _ hN with ⟨f, f1, f2, f3, f4, f5⟩ | ⟨p', i, N', c1, c2, c3, c4, c5, c6, c7, c8, c9⟩
    · rw [hp _ ?side, f1]
      case side => exact hA
      dsimp only
      refine wpAny_pure (h2 (fun hex => ?_) f f2 f3 f4)
      obtain ⟨e, he, hk⟩ := hex
      obtain ⟨j, hj⟩ := mem_zip tb.size he
      obtain ⟨i, i1, i2⟩ := at_zip hj
      obtain ⟨_, _, _, q⟩ := id hk
      exact f5 j i (hm j e hj hk) i1 (by rw [hash_at i e i2, q, hH])
    · rw [hp _ ?side, c1]
      case side => exact hA
      dsimp only
      obtain ⟨e, ei, ez⟩ := zip_at (t := t) (es := es) tb.size c2
      have hmem : e ∈ es.toList := by rw [← Array.getElem?_toList] at ei; exact List.mem_of_getElem? ei
      obtain ⟨k', b', eb, tk', eh⟩ := hel e hmem
      have rest : wpAny (model prog w) A (do
          let some (_, y) := es[i]? | unsupported "internal:set-entry"
          let equal ← holding [y] (eqBool y (.ref b))
          let (es', _, t') ← setState a
          if true && equal then return .there none
          let some same := t'.sameMemory t.moves t.mask | unsupported "set.changed-during-lookup:is-the-new-block-at-the-old-address"
          let still ← match (if same then t'.slot p'.j else .empty) with
            | .live i' => match es'[i']? with
              | some (_, y') => do pure (if ← isSame y' y then some i' else none)
              | none => pure none
            | _ => pure none
          match still with
          | none => rule "set.search.anew"; setSearchFrom a (.ref b) H true fuel none
          | some i' => if equal then return .there (some i') else setSearchFrom a (.ref b) H true fuel (some (adv t.mask p'))) Q E s := by
        rw [ei]
        dsimp only
        rw [eb]
        refine wpAny_bind (wpAny_holding (wpAny_eqBool_tuple hu tk' hb ?_))
        refine wpAny_bind (wpAny_setState_of ho hd fit ?_)
        dsimp only
        by_cases hkk : k' = k
        · rw [decide_eq_true hkk]
          simp only [Bool.and_self, if_true]
          exact wpAny_pure (h1 ⟨e, hmem, b', eb, hkk ▸ tk', hkk ▸ eh⟩)
        · rw [decide_eq_false hkk]
          simp only [Bool.and_false, Bool.false_eq_true, if_false]
          have sm : t.sameMemory t.moves t.mask = some true := by
            unfold SetTable.sameMemory
            rw [if_pos (by exact beq_self_eq_true _)]
          rw [sm]
          dsimp only
          simp only [if_true]
          rw [c3]
          dsimp only
          rw [ei]
          dsimp only
          rw [eb]
          have same : isSame (.ref b') (.ref b') = pure true := by
            unfold isSame
            dsimp only
            rw [if_pos (by exact beq_self_eq_true _)]
          rw [same]
          refine wpAny_bind (wpAny_bind (wpAny_pure ?_))
          refine wpAny_pure ?_
          subst hH
          refine search_ok hu hb ho hd tb hn hel h1 fuel N' (some (adv t.mask p')) c5 c7 (by omega) (by omega) (fun j e' hz hk => ?_) fun hne f f1 f2 f3 => h2 hne f f1 f2 (c9 f f3)
          obtain ⟨i', i1, i2⟩ := at_zip hz
          obtain ⟨_, _, _, q⟩ := id hk
          rcases c8 j i' (hm j e' hz hk) i1 (by rw [hash_at i' e' i2, q]) with z | z
          · exfalso
            rw [z] at i1
            have := place_inj tb i1 c2
            subst this
            rw [ei] at i2
            cases i2
            exact hkk (ElH.inj ⟨b', eb, tk', eh⟩ hk)
          · exact z
      by_cases hld : t.led = true
      · rw [hld]
        simp only [Bool.not_true, Bool.false_eq_true, if_false]
        exact rest
      · have hld : t.led = false := by simpa using hld
        rw [hld]
        simp only [Bool.not_false, if_true]
        refine wpAny_bind (seen_not hb _ (fun y hy => ?_) ?_)
        · obtain ⟨e2, he2, rfl⟩ := List.mem_map.mp hy
          have he2 : e2 ∈ es.toList := by
            rw [Array.toList_filter] at he2
            exact (List.mem_filter.mp he2).1
          obtain ⟨k2, b2, q1, q2, q3⟩ := hel e2 he2
          exact ⟨b2, k2, q1, q2⟩
        · simp only [Bool.false_eq_true, if_false]
          exact rest
end
end HSet

set_option maxRecDepth 100000
set_option maxHeartbeats 4000000
set_option linter.all false
namespace HSet
open PySem
section
variable {prog : Program} {w : World} {K : Type} [DecidableEq K] {A : Around} {E : Value → Shared → Prop} {s : Shared}
/-- a set of tuples at an address: its keys in some order; the tuples stand in hk -/
def SetH (knd : KeyKind prog w K) (hk h : Heap) (a : Addr) (S : List (List K)) : Prop :=
  ∃ o es ep t, h.get? a = some o ∧ o.ExactSet ∧ o.data = .set es ep t ∧ (∀ e ∈ es.toList, ∃ k, ElH knd hk k e) ∧ Tb t es.size ∧ es.size * 5 < t.mask * 3 ∧ Rch t es.toList ∧ (∀ k, k ∈ S ↔ ∃ e ∈ es.toList, ElH knd hk k e) ∧ es.size = S.length
variable {knd : KeyKind prog w K}
theorem ElH.at' {h h' : Heap} {k : List K} {e : Int × Value} (x : ElH knd h k e) (q : ∀ b o, h.get? b = some o → h'.get? b = some o) : ElH knd h' k e := by
  obtain ⟨b, e1, ⟨o, its, n, g, r⟩, e3⟩ := x
  exact ⟨b, e1, ⟨o, its, n, q b o g, r⟩, e3⟩
theorem SetH.moved {hk h h' : Heap} {a : Addr} {S : List (List K)} (x : SetH knd hk h a S) (q : ∀ o, h.get? a = some o → h'.get? a = some o) : SetH knd hk h' a S := by
  obtain ⟨o, es, ep, t, ho, r⟩ := x
  exact ⟨o, es, ep, t, q o ho, r⟩
theorem storeSet_at {a : Addr} {o : Obj} {es : Array (Int × Value)} {ep : Nat} {t : SetTable} (es' : Array (Int × Value)) (t' : SetTable) {h : Heap} (ho : h.get? a = some o) (hd : o.data = .set es ep t) :
    (h.update a (Obj.putSet es' t')).get? a = some { o with data := .set es' (ep + 1) t' } := by
  have := Heap.get?_update_self (Obj.putSet es' t') ho (by rw [putSet_of es' t' hd]; rfl)
  rw [putSet_of es' t' hd] at this; exact this
theorem sizes : SetTable.sizeAbove 20 = 32 ∧ SetTable.sizeAbove 76 = 128 ∧ SetTable.sizeAbove 308 = 512 := by decide
theorem grow_ok {m n : Nat} (hm : Good m) (h1 : n * 5 < m * 3) (h2 : m * 3 ≤ (n + 1) * 5) (hn : n + 1 ≤ 200) : Good (SetTable.sizeAbove (SetTable.grown (n + 1)) - 1) ∧ (n + 1) * 5 < (SetTable.sizeAbove (SetTable.grown (n + 1)) - 1) * 3 ∧ n + 1 ≤ SetTable.sizeAbove (SetTable.grown (n + 1)) - 1 ∧ SetTable.sizeAbove (SetTable.grown (n + 1)) ≤ 512 := by
  obtain ⟨s1, s2, s3⟩ := sizes
  rcases hm with rfl | rfl | rfl | rfl
  · obtain rfl : n = 4 := by omega
    rw [show SetTable.grown (4 + 1) = 20 from rfl, s1]
    exact ⟨.inr (.inl rfl), by decide, by decide, by decide⟩
  · obtain rfl : n = 18 := by omega
    rw [show SetTable.grown (18 + 1) = 76 from rfl, s2]
    exact ⟨.inr (.inr (.inl rfl)), by decide, by decide, by decide⟩
  · obtain rfl : n = 76 := by omega
    rw [show SetTable.grown (76 + 1) = 308 from rfl, s3]
    exact ⟨.inr (.inr (.inr rfl)), by decide, by decide, by decide⟩
  · omega
theorem tb_plain {t : SetTable} {n : Nat} (h : Tb t n) (b : Bool) : Tb { t with plain := b } n := ⟨h.mask, h.dum, h.size, h.ris, h.lt⟩
theorem addH {a b : Addr} {S : List (List K)} {k : List K} {Q : Bool → Shared → Prop} {hk : Heap} (hu : A.units < cLine) (sub : ∀ b o, hk.get? b = some o → s.heap.get? b = some o) (hS : SetH knd hk s.heap a S) (hb0 : IsTupleKey knd hk k b) (hn : S.length + 1 ≤ 200)
    (h : ∀ r h', Heap.SameBut a s.heap h' → SetH knd hk h' a (if k ∈ S then S else S ++ [k]) → Q r { s with heap := h' }) :
    wpAny (model prog w) A (setAddHashed a (.ref b) (tupleKeyHash knd k)) Q E s := by
  obtain ⟨o, es, ep, t, ho, hex, hd, hel0, tb, sz, rc, hks, hl⟩ := id hS
  have hb : IsTupleKey knd s.heap k b := by
    obtain ⟨o, its, n, g, r⟩ := hb0
    exact ⟨o, its, n, sub b o g, r⟩
  have hel : ∀ e ∈ es.toList, ∃ k', ElH knd s.heap k' e := fun e he => let ⟨k', hx⟩ := hel0 e he; ⟨k', hx.at' sub⟩
  have dn : ∀ k' e, e ∈ es.toList → ElH knd s.heap k' e → ElH knd hk k' e := fun k' e he hx => by
    obtain ⟨k2, h2⟩ := hel0 e he
    have : k' = k2 := ElH.inj hx (h2.at' sub)
    rw [this]; exact h2
  have gm : 7 ≤ t.mask ∧ t.mask ≤ 511 := by rcases tb.mask with e | e | e | e <;> rw [e] <;> decide
  have hle : es.size ≤ t.mask := by omega
  have fit := fits_of tb hle
  have hbs : byScan (.ref b) es = false := rfl
  unfold setAddHashed setAddHashedIn
  refine wpAny_holding (wpAny_bind (wpAny_setState_of ho hd fit ?_))
  dsimp only
  rw [hbs]
  simp only [Bool.false_eq_true, if_false]
  obtain ⟨e, e1, e2⟩ := free_ex (m := t.mask) (l := t.place.toList) (by rw [Array.length_toList, tb.size]; exact hle)
  obtain ⟨N, n1, n2⟩ := fst_ex tb.mask (Oc t) e1 e2 (tupleKeyHash knd k)
  have vp : Vp t.mask (t.probeStart (tupleKeyHash knd k)) := vp_mkp (q := (SetTable.bits (tupleKeyHash knd k) % (t.mask + 1), SetTable.bits (tupleKeyHash knd k))) (by have := Nat.mod_lt (SetTable.bits (tupleKeyHash knd k)) (show 0 < t.mask + 1 by omega); show SetTable.bits (tupleKeyHash knd k) % (t.mask + 1) ≤ t.mask; omega)
  have tmx : 10 * SetTable.turns t.mask ≤ 6000 := by unfold SetTable.turns; omega
  have here : Q false s → k ∈ S → Q false s := fun q _ => q
  refine wpAny_bind (search_ok hu hb ho hd tb hle hel (fun hex2 => ?_) 100000 N none n2 vp (by omega) n1 (fun j e' hz hk' => ?_) fun hne f f1 f2 f3 => ?_)
  · dsimp only
    have hin : k ∈ S := (hks k).mpr (let ⟨e, he, hx⟩ := hex2; ⟨e, he, dn k e he hx⟩)
    have := h false s.heap (Heap.SameBut.refl a s.heap) (by rw [if_pos hin]; exact hS)
    have es' : s = { s with heap := s.heap } := by cases s; rfl
    rw [es']
    exact wpAny_pure this
  · obtain ⟨_, _, _, q⟩ := id hk'
    have := rc j e' hz
    rw [q] at this
    exact this
  · dsimp only
    have hni : ¬ k ∈ S := fun hin => hne (let ⟨e, he, hx⟩ := (hks k).mp hin; ⟨e, he, hx.at' sub⟩)
    have f3 : Pth t.mask (Oc t) (t.probeStart (tupleKeyHash knd k)) f := f3
    refine wpAny_bind (wpAny_setState_of ho hd fit ?_)
    dsimp only
    have tb1 := put_tb tb f1 f2
    obtain ⟨r1, r2, r3⟩ := put_ok (e := (tupleKeyHash knd k, Value.ref b)) tb rc f1 f2 f3
    generalize ht1 : (t.put f).1 = t1 at *
    generalize hp1 : (t.put f).2 = p1 at *
    have m1 : t1.mask = t.mask := by rw [← ht1]; rfl
    generalize hes1 : SetTable.insertAt es p1 (tupleKeyHash knd k, Value.ref b) = es1 at *
    -- what is then stored
    have go : ∀ (v : Bool) (t2 : SetTable), t2 = { t1 with plain := v } → wpAny (model prog w) A (do
        storeSet a es1 t2
        if (!false && t2.tooFull) = true then setRelay a (SetTable.grown (es.size + 1))
        return true) Q E s := by
      intro v t2 e2
      have tb2 : Tb t2 es1.size := by rw [e2, r3]; exact tb_plain tb1 v
      have m2 : t2.mask = t.mask := by rw [e2]; exact m1
      have rc2 : Rch t2 es1.toList := by rw [e2]; exact r1
      have hz1 : es1.size ≤ sizeLine := by rw [r3, sizeLine_eq]; omega
      refine wpAny_bind (wpAny_storeSet_of ho hd ?_ hz1)
      have g1 := storeSet_at es1 t2 ho hd
      have sb1 := Heap.SameBut.update s.heap a (Obj.putSet es1 t2)
      have new : ElH knd hk k (tupleKeyHash knd k, Value.ref b) := ⟨b, rfl, hb0, rfl⟩
      have el1 : ∀ e ∈ es1.toList, ∃ k', ElH knd hk k' e := fun e he => by
        rcases List.mem_cons.mp (r2.mem_iff.mp he) with rfl | he
        · exact ⟨k, new⟩
        · exact hel0 e he
      have mem1 : ∀ k', k' ∈ S ++ [k] ↔ ∃ e ∈ es1.toList, ElH knd hk k' e := fun k' => by
        rw [List.mem_append, hks k', List.mem_singleton]
        constructor
        · rintro (⟨e, he, hx⟩ | rfl)
          · exact ⟨e, r2.mem_iff.mpr (List.mem_cons_of_mem _ he), hx⟩
          · exact ⟨_, r2.mem_iff.mpr List.mem_cons_self, new⟩
        · rintro ⟨e, he, hx⟩
          rcases List.mem_cons.mp (r2.mem_iff.mp he) with rfl | he
          · exact .inr (ElH.inj hx new)
          · exact .inl ⟨e, he, hx⟩
      have fin : ∀ (h' : Heap) (esF : Array (Int × Value)) (epF : Nat) (tF : SetTable), Heap.SameBut a s.heap h' → h'.get? a = some { o with data := .set esF epF tF } → esF.toList.Perm es1.toList → Tb tF esF.size → esF.size * 5 < tF.mask * 3 → Rch tF esF.toList → Q true { s with heap := h' } := by
        intro h' esF epF tF sb g pm tbF szF rcF
        refine h true h' sb ⟨_, esF, epF, tF, g, hex, rfl, fun e he => ?_, tbF, szF, rcF, fun k' => ?_, ?_⟩
        · exact el1 e (pm.mem_iff.mp he)
        · rw [if_neg hni, mem1 k']
          constructor
          · rintro ⟨e, he, hx⟩
            exact ⟨e, pm.mem_iff.mpr he, hx⟩
          · rintro ⟨e, he, hx⟩
            exact ⟨e, pm.mem_iff.mp he, hx⟩
        · have := pm.length_eq
          rw [Array.length_toList, Array.length_toList, r3] at this
          rw [if_neg hni, List.length_append, List.length_singleton]
          omega
      by_cases tf : t2.tooFull = true
      · rw [tf]
        simp only [Bool.not_false, Bool.and_self, if_true]
        have full : t.mask * 3 ≤ (es.size + 1) * 5 := by
          unfold SetTable.tooFull SetTable.fill at tf
          rw [tb2.size, tb2.dum, m2, r3] at tf
          have := of_decide_eq_true tf
          simpa using this
        obtain ⟨gg, gs, gl, gz⟩ := grow_ok tb.mask sz full (by omega)
        have fit1 := fits_of tb2 (by rw [r3, m2]; omega)
        unfold setRelay
        refine wpAny_bind (wpAny_bind (wpAny_setState_of g1 rfl fit1 ?_))
        dsimp only
        rw [if_neg (by rw [sizeLine_eq]; omega)]
        obtain ⟨t', order, q1, q2, q3, q4, q5, q6, q7⟩ := relaid_ok (t := t2) (es := es1) (wanted := SetTable.grown (es.size + 1)) gg (by rw [r3]; exact gl)
        rw [q1]
        have szF : (order.filterMap (es1[·]?)).size = es1.size := by
          have := q6.length_eq
          rw [Array.length_toList, Array.length_toList] at this
          exact this
        refine wpAny_bind ?_
        show wpAny _ _ (if ((order.filterMap (es1[·]?)).size != es1.size) = true then _ else _) _ _ _
        rw [szF]
        simp only [bne_self_eq_false, Bool.false_eq_true, if_false]
        refine wpAny_pure ?_
        refine wpAny_storeSet_of g1 rfl ?_ (by rw [szF]; exact hz1)
        refine wpAny_pure (fin _ (order.filterMap (es1[·]?)) (ep + 1 + 1) t' ?_ (storeSet_at (o := { o with data := .set es1 (ep + 1) t2 }) (order.filterMap (es1[·]?)) t' g1 rfl) q6 (by rw [szF]; exact q5) ?_ q7)
        · exact sb1.trans (Heap.SameBut.update _ a _)
        · rw [szF, r3, q2]
          exact gs
      · have tf : t2.tooFull = false := by simpa using tf
        rw [tf]
        simp only [Bool.and_false, Bool.false_eq_true, if_false]
        refine wpAny_pure (fin _ _ _ _ sb1 g1 (List.Perm.refl _) tb2 ?_ rc2)
        unfold SetTable.tooFull SetTable.fill at tf
        rw [tb2.size, tb2.dum, m2] at tf
        have := of_decide_eq_false tf
        rw [m2]
        simp at this
        omega
    by_cases hpl : t1.plain = true
    · rw [hpl]
      simp only [if_true]
      refine wpAny_bind (byVal hb fun v => ?_)
      cases v with
      | true =>
        simp only [if_true]
        exact go true t1 (by cases t1; simp at hpl; rw [hpl])
      | false =>
        simp only [Bool.false_eq_true, if_false]
        exact go false _ rfl
    · have hpl : t1.plain = false := by simpa using hpl
      rw [hpl]
      simp only [Bool.false_eq_true, if_false]
      refine wpAny_bind (wpAny_pure ?_)
      simp only [if_true]
      exact go false t1 (by cases t1; simp at hpl; rw [hpl])
end
end HSet

set_option maxRecDepth 100000
set_option maxHeartbeats 4000000
set_option linter.all false
namespace HSet
open PySem PyProof.Rows
section
variable {K : Type} [DecidableEq K]
def metK (val : Nat → List K) : Nat → List (List K)
  | 0 => []
  | i + 1 => if val i ∈ metK val i then metK val i else metK val i ++ [val i]
theorem metK_len (val : Nat → List K) : ∀ i, (metK val i).length ≤ i
  | 0 => Nat.le_refl _
  | i + 1 => by
    have := metK_len val i
    show (if val i ∈ metK val i then metK val i else metK val i ++ [val i]).length ≤ _
    split
    · omega
    · rw [List.length_append, List.length_singleton]; omega
end
section
variable {prog : Program} {w : World} {K : Type} [DecidableEq K] {knd : KeyKind prog w K} {A : Around} {R : Result → Shared → Prop} {I : Addr} {fp wr : List Addr} {G : Array GenState → Array GenState → Prop} {n : Nat} {P : Nat → Value → Prop} {St : Nat → Shared → Prop}
theorem upd_loopH (W : WalksS prog w A.in1 I fp wr G n P St) (S : Addr) (hSf : S ∉ fp) (hu : A.in1.units < cLine) (hk : Heap) (hSn : hk.get? S = none) (hwn : ∀ b ∈ wr, hk.get? b = none)
    (val : Nat → List K) (hb : n ≤ 200) (hv : ∀ i v, P i v → ∃ b, v = .ref b ∧ IsTupleKey knd hk (val i) b) :
    ∀ (k i : Nat) (s : Shared), n - i = k → i ≤ n → St i s → SetH knd hk s.heap S (metK val i) → (∀ b o, hk.get? b = some o → s.heap.get? b = some o) →
      (∀ s', Moved (S :: wr) G s s' → SetH knd hk s'.heap S (metK val n) → R (.ok (.ret .none)) s') →
      codeAny (model prog w) A (.builtin "set.update.loop" ⟨[.ref S, .ref I], []⟩) R s := by
  have hSw : S ∉ wr := fun h => hSf (W.sub _ h)
  have hsub : ∀ b ∈ wr, b ∈ S :: wr := fun b hb => List.mem_cons_of_mem _ hb
  intro k
  induction k with
  | zero =>
    intro i s hk' hi hst hS sub hR
    have hin : i = n := by omega
    subst hin
    refine codeAny_builtin F.entry_set_update_loop ?_
    rw [Around.under_plainId F.plain_set_update_loop _]
    show wpAny _ A.in1 (pyNext (.ref I) >>= _) _ _ s
    refine wpAny_bind (W.done s _ _ hst fun s' hm => ?_)
    show wpAny _ A.in1 (ret Value.none) _ _ s'
    exact wpAny_pure (hR s' (hm.mono hsub) (hS.moved fun o ho => hm.heap S _ hSw ho))
  | succ k ih =>
    intro i s hk' hi hst hS sub hR
    have hlt : i < n := by omega
    refine codeAny_builtin F.entry_set_update_loop ?_
    rw [Around.under_plainId F.plain_set_update_loop _]
    show wpAny _ A.in1 (pyNext (.ref I) >>= _) _ _ s
    refine wpAny_bind (W.item i s _ _ hlt hst fun v s' hP hst' hm => ?_)
    obtain ⟨b, rfl, htk⟩ := hv i v hP
    have sub1 : ∀ b o, hk.get? b = some o → s'.heap.get? b = some o := fun b o g => hm.heap b o (fun z => by rw [hwn b z] at g; cases g) (sub b o g)
    have hS' : SetH knd hk s'.heap S (metK val i) := hS.moved fun o ho => hm.heap S _ hSw ho
    have htk1 : IsTupleKey knd s'.heap (val i) b := by
      obtain ⟨o, its, n, g, r⟩ := htk
      exact ⟨o, its, n, sub1 b o g, r⟩
    show wpAny _ A.in1 (holding [Value.ref b] (setAdd S (.ref b)) >>= _) _ _ s'
    refine wpAny_bind (wpAny_holding ?_)
    unfold setAdd
    refine wpAny_holding ?_
    refine wpAny_bind (wpAny_pyHash_tuple hu htk1 ?_)
    have hl := metK_len val i
    refine addH (s := { s' with toks := s'.toks + ((val i).length + 1) }) hu sub1 hS' htk (by omega) fun r h' hsb hS2 => ?_
    refine wpAny_pure ⟨plainId_quiet F.plain_set_update_loop _, ih (i + 1) _ (by omega) hlt (W.frame _ s' _ _ hst' (Nat.le_add_right _ _) fun b hb o e => ?_) hS2 (fun b o g => ?_) fun s'' hm'' hS'' => ?_⟩
    · rw [hsb.2 b (fun h : b = S => hSf (by rw [← h]; exact hb))]; exact e
    · show h'.get? b = some o
      rw [hsb.2 b (fun h : b = S => by rw [h, hSn] at g; cases g)]; exact sub1 b o g
    · refine hR s'' (Moved.trans W.gtrans ((hm.mono hsub).then_heap (Nat.le_add_right _ _) fun b o hb e => ?_) hm'') hS''
      rw [hsb.2 b (fun h : b = S => hb (by rw [h]; exact List.mem_cons_self))]; exact e
end
section
variable {prog : Program} {w : World} {K : Type} [DecidableEq K] {knd : KeyKind prog w K} {A : Around} {E : Value → Shared → Prop} {s : Shared}
open SetT
theorem fresh_setH {h hk : Heap} {a : Addr} (ho : h.get? a = some (freshSet w)) : SetH knd hk h a [] :=
  ⟨_, #[], 0, _, ho, ⟨rfl, rfl, rfl⟩, rfl, fun e he => by simp at he, ⟨.inl rfl, rfl, rfl, List.Pairwise.nil, fun j hj => by simp [SetTable.fresh] at hj⟩, (show 0 * 5 < 7 * 3 by decide), fun j e h => by simp [SetTable.fresh] at h, fun k => by simp, rfl⟩
theorem call_setH {l : Addr} {items : Array Value} {val : Nat → List K} {Q : Value → Shared → Prop}
    (hh : A.handled = none) (hu : A.units + 64 < cLine) (hl : s.heap.IsList l items) (hi : ∀ i v, items[i]? = some v → ∃ b, v = .ref b ∧ IsTupleKey knd s.heap (val i) b) (hb : items.size ≤ 200)
    (h : ∀ (h' : Heap) (tk : Nat), SetH knd s.heap h' s.heap.objs.size (metK val items.size) →
      (∀ b o, b < s.heap.objs.size → s.heap.get? b = some o → h'.get? b = some o) → Q (.ref s.heap.objs.size) { s with heap := h', toks := tk }) :
    wpAny (model prog w) A (call (.type "set") [.ref l]) Q E s := by
  obtain ⟨c, tl, hmro⟩ := F.called_set.mro
  have hmade := F.called_set.made
  have hsub := F.called_set.sub
  refine wpAny_call (codeAny_of_tree ?_)
  show wpAny _ _ (callAny (.type "set") _) _ _ _
  refine wpAny_pure ⟨Code.quiet_builtin _ (by decide +kernel), codeAny_builtin F.entry_type_call ?_⟩
  rw [Around.under_plain (weight_type_call_type "set" [.ref l] []) rfl]
  have h1 := F.called_set.notType
  have h2 := F.called_set.canCreate
  have hct := F.typeCall_set_1 (.ref l)
  repeat (any_goals (first | assumption | wp_step))
  refine codeAny_mono (code_new (.ref l) (E := E) (Q₁ := fun obj s₁ => obj = .ref s.heap.objs.size ∧ s₁ = { s with heap := s.heap.push (freshSet w) }) ⟨rfl, rfl⟩) fun r s₁ hr => ?_
  cases r with
  | error e => exact hr
  | ok fl =>
    cases fl with
    | ret obj =>
      obtain ⟨rfl, rfl⟩ := hr
      have hS : (s.heap.push (freshSet w)).get? s.heap.objs.size = some (freshSet w) := Heap.get?_push_size _ rfl
      have hT : Shared.TypeIs { s with heap := s.heap.push (freshSet w) } (.ref s.heap.objs.size) "set" := ⟨_, hS, rfl⟩
      have hli := F.called_set.init.lookup
      have hbi := F.called_set.init.bind (.ref s.heap.objs.size)
      repeat (any_goals (first | assumption | wp_step))
      refine codeAny_mono (codeAny_call_builtin (R := wants (fun r s₂ => r = .none ∧ ∃ h' tk, s₂ = { s with heap := h', toks := tk } ∧
          SetH knd s.heap h' s.heap.objs.size (metK val items.size) ∧
          (∀ b o, b < s.heap.objs.size → s.heap.get? b = some o → h'.get? b = some o)) E) F.called_set.init.plain F.entry_set_init (check_set_init_1 hT ?_)) fun r₂ s₂ hr₂ => ?_
      · obtain ⟨ol, hol, hcl, nl, hdl⟩ := hl
        obtain ⟨ocls, odict, odata, oslots⟩ := ol
        simp only at hcl hdl
        subst hcl; subst hdl
        have hol' : (s.heap.push (freshSet w)).get? l = some { cls := .type "list", dict := odict, data := .seq items nl, slots := oslots } := Heap.get?_push_of_some _ hol
        have hsls := F.sub_list_set
        have hslf := F.sub_list_frozenset
        have hne : (Value.type "list" == Value.type "dict") = false := by decide
        have hl1 : (s.heap.push (freshSet w)).IsList l items := ⟨_, hol', rfl, nl, rfl⟩
        unfold Builtin.«set.__init__» noKeywords Builtin.Frozenset.updateFrom
        generalize hPI : pyIter = PI
        wp_walk
        subst hPI
        refine wpAny_pyIter_list hl1 ?_
        refine wpAny_bind (wpAny_runValue ?_)
        have hlS : l < s.heap.objs.size := Heap.lt_size hol
        have hh3 : A.in1.in1.in1.handled = none := by simp [hh]
        have hneI : l ≠ (s.heap.push (freshSet w)).objs.size := by
          rw [Heap.size_push]; exact Nat.ne_of_lt (Nat.lt_succ_of_lt hlS)
        have hSf : s.heap.objs.size ∉ [(s.heap.push (freshSet w)).objs.size, l] := by
          rw [Heap.size_push]; simp only [List.mem_cons, List.mem_singleton, List.not_mem_nil, or_false, not_or]
          exact ⟨Nat.ne_of_lt (Nat.lt_succ_self _), Nat.ne_of_gt hlS⟩
        refine upd_loopH (knd := knd) ((Walks.list hh3 _ l hneI items).toS) s.heap.objs.size
          hSf ?hu s.heap (Heap.get?_none_of_le (Nat.le_refl _)) ?hwn val hb hi (items.size - 0) 0 _ (by omega) (Nat.zero_le _)
          ⟨⟨_, Heap.get?_push_size _ rfl, rfl, rfl⟩, (hl1.push _)⟩ ?hS0 ?hsub ?hR
        case hu => show A.units + 1 + 1 + 1 < cLine; omega
        case hwn =>
          intro b hb
          refine Heap.get?_none_of_le ?_
          have : b = (s.heap.push (freshSet w)).objs.size := by simpa using hb
          rw [this, Heap.size_push]; omega
        case hS0 =>
          exact fresh_setH (Heap.get?_push_of_some _ hS)
        case hsub => exact fun b o g => Heap.get?_push_of_some _ (Heap.get?_push_of_some _ g)
        case hR =>
          intro s' hm hS'
          obtain ⟨h', g', d', tk', os'⟩ := s'
          have eg : g' = s.gens := hm.gens
          have ed : d' = s.drawn := hm.drawn
          have eo : os' = s.os := hm.os
          subst eg; subst ed; subst eo
          show wpAny _ _ _ _ _ _
          refine wpAny_pure ?_
          show wpAny _ _ (ret Value.none) _ _ _
          refine wpAny_pure ⟨rfl, h', tk', rfl, hS', fun b o hb e => ?_⟩
          have hb1 : b ≠ s.heap.objs.size := Nat.ne_of_lt hb
          have hb2 : b ≠ (s.heap.push (freshSet w)).objs.size := by
            rw [Heap.size_push]; exact Nat.ne_of_lt (Nat.lt_succ_of_lt hb)
          exact hm.heap b o (by simp only [List.mem_cons, List.mem_singleton, List.not_mem_nil, or_false, not_or]; exact ⟨hb1, hb2⟩) (Heap.get?_push_of_some _ (Heap.get?_push_of_some _ e))
      · cases r₂ with
        | error e => exact hr₂
        | ok fl₂ =>
          cases fl₂ with
          | ret r =>
            obtain ⟨rfl, h', tk, rfl, hS', hk'⟩ := hr₂
            repeat (any_goals (first | assumption | wp_step))
            exact h _ _ hS' hk'
          | _ => exact hr₂.elim
    | _ => exact hr.elim
theorem call_lenH {hk : Heap} {a : Addr} {S : List (List K)} {Q : Value → Shared → Prop} (hS : SetH knd hk s.heap a S) (hn : S.length ≤ 200) (h : ∀ t tk, Q (.int (S.length : Int) t) { s with toks := tk }) : wpAny (model prog w) A (call (.builtin "len") [.ref a]) Q E s := by
  obtain ⟨o, es, ep, t, ho, hex, hd, _, tb, sz, _, _, hl⟩ := hS
  refine call_len_set ho hex hd (fits_of tb (by omega)) (by omega) ?_
  rw [hl]
  exact h _ _
end
end HSet

set_option maxRecDepth 100000
set_option maxHeartbeats 4000000
set_option linter.all false
namespace PySem
open PyProof.Rows PySem.W
theorem raise_plain {M : Model} {A : Around} {E : Value → Shared → Prop} {s : Shared} {α : Type} {Q : α → Shared → Prop} {a : Addr} (hh : A.handled = none) (h : E (.ref a) s) : wpAny M A (raiseNew (.ref a) : Sem α) Q E s := by
  unfold raiseNew
  refine wpAny_bind (wpAny_handled ?_)
  rw [hh]
  first
    | exact wpAny_bind (wpAny_pure (wpAny_throw h))
    | exact wpAny_throw h
def DictRaw (h : Heap) (d : Addr) (es : Array DictEntry) (ep : Nat) : Prop := ∃ o, h.get? d = some o ∧ o.ExactDict ∧ o.data = .dict es ep
section
variable {prog : Program} {w : World} {A : Around} {E : Value → Shared → Prop} {s : Shared}
theorem DictRaw.typeIs {d : Addr} {es : Array DictEntry} {ep : Nat} (x : DictRaw s.heap d es ep) : s.TypeIs (.ref d) "dict" := let ⟨o, ho, hx, _⟩ := x; ⟨o, ho, hx.1⟩
theorem DictRaw.at' {h h' : Heap} {d : Addr} {es : Array DictEntry} {ep : Nat} (x : DictRaw h d es ep) (e : ∀ o, h.get? d = some o → h'.get? d = some o) : DictRaw h' d es ep := let ⟨o, ho, r⟩ := x; ⟨o, e _ ho, r⟩
theorem iter_raw {d : Addr} {es : Array DictEntry} {ep : Nat} {Q : Value → Shared → Prop} (hd : (d == sysModules) = false) (hm : DictRaw s.heap d es ep)
    (hQ : Q (.ref s.heap.objs.size) { s with heap := s.heap.push { cls := .type "dict_keyiterator", data := .fields #[.ref d, .int 0 0, .int es.size 0, .int ep 0] } }) :
    wpAny (model prog w) A (pyIter (.ref d)) Q E s := by
  have hT := hm.typeIs
  obtain ⟨o, ho, hc, hdat⟩ := id hm
  refine wpAny_pyIter_slot hT PySem.F.slot_dict_iter (wpAny_call_entry PySem.F.slot_dict_iter hT PySem.F.entry_dict_iter ?_ (PySem.F.args_dict_iter_1 _))
  unfold Builtin.«dict.__iter__»
  refine wpAny_bind ?_
  unfold Builtin.Dict.dictSlotNone
  refine wpAny_bind (wpAny_notOrdered_dict hT ?_)
  show wpAny _ _ (pure (Value.ref d)) _ _ s
  refine wpAny_pure ?_
  show wpAny _ _ (Builtin.Dict.showsAll d >>= _) _ _ s
  unfold Builtin.Dict.showsAll
  rw [if_neg (by rw [hd]; exact Bool.false_ne_true)]
  refine wpAny_bind (wpAny_pure ?_)
  refine wpAny_bind (wpAny_dictEntries ho hdat ?_)
  refine wpAny_bind (wpAny_dictEpoch ho hdat ?_)
  refine wpAny_bind (wpAny_newObj_type (wpAny_pure ⟨_, rfl, "dict_keyiterator", _, ⟨_, Heap.get?_push_size _ rfl, rfl⟩, PySem.F.slot_dict_keyiterator_next.lookup, ?_⟩))
  simpa [rawInt] using hQ
theorem next_raw {it d : Addr} {i ep : Nat} {es : Array DictEntry} {Q : Option Value → Shared → Prop} (hit : s.heap.IsKeyIter it d i es.size ep) (hm : DictRaw s.heap d es ep) (hlt : i < es.size)
    (hQ : ∀ h', h'.IsKeyIter it d (i + 1) es.size ep → Heap.SameBut it s.heap h' → Q (some es[i].key) { s with heap := h' }) :
    wpAny (model prog w) A (pyNext (.ref it)) Q E s := by
  have ty := hit.typeIs
  obtain ⟨o, ho, hc, hd⟩ := id hit
  obtain ⟨od, hod, hcd, hdd⟩ := id hm
  unfold pyNext
  refine wpAny_bind (wpAny_attempt (wpAny_callSpecial?_slot (name := Str.ofString "__next__") ty PySem.F.slot_dict_keyiterator_next (wpAny_call_entry PySem.F.slot_dict_keyiterator_next ty PySem.F.entry_dict_keyiterator_next ?_ (PySem.F.args_dict_keyiterator_next_1 _))))
  obtain ⟨oc, odt, odd, osl⟩ := o
  simp only at hc hd
  subst hc hd
  obtain ⟨xc, xdt, xdd, xsl⟩ := od
  simp only at hdd
  subst hdd
  have own : Builtin.Dict_items.ownsTuple ((Manifest.find? "dict_keyiterator").elim "dict_keyiterator" fun x => x.tpName) = false := by rw [find?_eq_fast]; decide +kernel
  have neg : ¬ ((i : Int) < 0) := by omega
  have at' : es[(i : Int).toNat]? = some es[i] := by rw [Int.toNat_natCast]; exact Array.getElem?_eq_getElem hlt
  repeat (any_goals (first | assumption | wp_step | (simp only [own, bne_self_eq_false, Bool.false_eq_true, if_false, neg, at'])))
  refine ⟨_, rfl, wpAny_pure ?_⟩
  rw [if_neg (by decide +kernel)]
  refine hQ _ ⟨_, Heap.get?_update_self _ ho rfl, rfl, ?_⟩ (Heap.SameBut.update ..)
  simp [Obj.mapFields, rawInt]
theorem next_raw_end {it d : Addr} {ep : Nat} {es : Array DictEntry} {Q : Option Value → Shared → Prop} (hh : A.handled = none) (hit : s.heap.IsKeyIter it d es.size es.size ep) (hm : DictRaw s.heap d es ep)
    (hQ : ∀ h', Heap.ExtBut it s.heap h' → Q none { s with heap := h' }) : wpAny (model prog w) A (pyNext (.ref it)) Q E s := by
  have ty := hit.typeIs
  obtain ⟨o, ho, hc, hd⟩ := id hit
  obtain ⟨od, hod, hcd, hdd⟩ := id hm
  unfold pyNext
  refine wpAny_bind (wpAny_attempt (wpAny_callSpecial?_slot (name := Str.ofString "__next__") ty PySem.F.slot_dict_keyiterator_next (wpAny_call_entry PySem.F.slot_dict_keyiterator_next ty PySem.F.entry_dict_keyiterator_next ?_ (PySem.F.args_dict_keyiterator_next_1 _))))
  obtain ⟨oc, odt, odd, osl⟩ := o
  simp only at hc hd
  subst hc hd
  obtain ⟨xc, xdt, xdd, xsl⟩ := od
  simp only at hdd
  subst hdd
  have own : Builtin.Dict_items.ownsTuple ((Manifest.find? "dict_keyiterator").elim "dict_keyiterator" fun x => x.tpName) = false := by rw [find?_eq_fast]; decide +kernel
  have neg : ¬ ((es.size : Int) < 0) := by omega
  have at' : es[(es.size : Int).toNat]? = none := by rw [Int.toNat_natCast]; exact Array.getElem?_eq_none (Nat.le_refl _)
  have hh1 : A.in1.handled = none := hh
  repeat (any_goals (first | assumption | wp_step | (simp only [own, bne_self_eq_false, Bool.false_eq_true, if_false, neg, at', hh1])))
  refine raise_plain hh1 (wpAny_bind ?_)
  refine wpAny_isInstance (b := true) (T := "StopIteration") ⟨_, Heap.get?_push_size _ rfl, rfl⟩ isSubtype_stop (wpAny_pure ?_)
  exact hQ _ (((Heap.SameBut.update s.heap it _).extBut.push _).push _)
theorem walks_raw (hh : A.handled = none) (I d : Addr) (hne : d ≠ I) (es : Array DictEntry) (ep : Nat) :
    Walks prog w A I [I, d] [I] es.size (fun i v => ∃ h : i < es.size, v = es[i].key) (fun i h => h.IsKeyIter I d i es.size ep ∧ DictRaw h d es ep) where
  sub := fun b hb => by simp at hb; simp [hb]
  frame := fun _ _ _ st hk => ⟨st.1.at fun o e => hk I (by simp) o e, st.2.at' fun o e => hk d (by simp) o e⟩
  item := fun i s Q E hi st hQ => by
    refine next_raw st.1 st.2 hi fun h' hit' hs' => ?_
    exact hQ _ h' s.toks ⟨hi, rfl⟩ ⟨hit', st.2.at' fun o e => (hs'.2 d hne).trans e⟩ fun b o hb e => hs'.extBut b o (fun h => hb (by simp [h])) e
  done := fun s Q E st hQ => next_raw_end hh st.1 st.2 fun h' he' => hQ h' s.toks fun b o hb e => he' b o (fun h => hb (by simp [h])) e
  self := fun _ _ _ _ st hQ => wpAny_pyIter_keyiter st.1 hQ
theorem src_raw {d : Addr} {es : Array DictEntry} {ep : Nat} (lo : (d == sysModules) = false) : KdlSrc prog w "dict" d d es.size (fun i v => ∃ h : i < es.size, v = es[i].key) (fun h => DictRaw h d es ep) where
  type := fun _ hm => hm.typeIs
  there := fun _ hm => let ⟨_, ho, _⟩ := hm; ⟨Heap.lt_size ho, Heap.lt_size ho⟩
  keep := fun _ _ hm hk => hm.at' fun o e => hk d (.inl rfl) o e
  notList := by decide
  notTuple := by decide
  hint := fun _ _ _ _ hm hq => kdl_hint_dict hm.typeIs hq
  iter := fun _ _ hh hm => ⟨_, _, (fun _ _ hq => iter_raw lo hm hq), walks_raw hh _ d (let ⟨_, ho, _⟩ := hm; Nat.ne_of_lt (Heap.lt_size ho)) es ep, ⟨⟨_, Heap.get?_push_size _ rfl, rfl, rfl⟩, hm.at' fun o e => Heap.get?_push_of_some _ e⟩⟩
theorem list_raw {d : Addr} {es : Array DictEntry} {ep : Nat} {Q : Value → Shared → Prop} (lo : (d == sysModules) = false) (hh : A.handled = none) (hm : DictRaw s.heap d es ep) (hn : es.size ≤ sizeLine)
    (h : ∀ h' tk c', (∀ b o, s.heap.get? b = some o → h'.get? b = some o) → h'.get? s.heap.objs.size = some { cls := .type "list", dict := none, data := .seq (es.map (·.key)) c', slots := #[] } → Q (.ref s.heap.objs.size) { s with heap := h', toks := tk }) :
    wpAny (model prog w) A (call (.type "list") [.ref d]) Q E s := by
  refine kdl_call (src_raw (ep := ep) lo) hh hm hn fun h' tk acc c' k g it => ?_
  have : acc = es.map (·.key) := by
    obtain ⟨i1, i2⟩ := it
    apply Array.ext
    · rw [Array.size_map]; exact i1
    · intro j h1 h2
      obtain ⟨_, e⟩ := i2 j _ (Array.getElem?_eq_getElem h1)
      rw [e, Array.getElem_map]
  rw [this] at g
  exact h h' tk c' k g
end
end PySem

set_option maxHeartbeats 4000000
set_option linter.all false
set_option maxRecDepth 100000
namespace DL
open PySem PySem.Spec PyProof.Rows L2 PySem.W
/-! ### max of three, keys of a dict, sorted by a key, a set's size, index -/
def bMax : List D → M D
  | [.int a, .int b, .int c] => .ok (.int (max (max a b) c))
  | _ => .bad
def keyDd : Key → D
  | .inl i => .int i
  | .inr x => .str x
def insP (x : D × D) : List (D × D) → List (D × D)
  | [] => [x]
  | y :: r => if lexK (keyRow y.1) (keyRow x.1) = true then y :: insP x r else x :: y :: r
def sortPs : List (D × D) → List (D × D)
  | [] => []
  | x :: r => insP x (sortPs r)
def mapKs (fk : D → M D) : List D → M (List D)
  | [] => .ok []
  | d :: r => (fk d).bind fun k => (mapKs fk r).bind fun ks => .ok (k :: ks)
def keyOfF (F : List D → M S) (z x : D) : M D := match F [x, z] with
  | .ok (.im d) => .ok d
  | _ => .bad
def fSortK (i j : Nat) (F : List D → M S) (sd : DSt) : M (List D) := match sd[i]?, sd[j]? with
  | some (some (.od kvs)), some (some (.im z)) => (mapKs (keyOfF F z) (kvs.map fun kv => .tup (kv.1.map keyDd))).bind fun ks =>
      if few ks && condD ks && decide ((ks.map keyRow).Nodup) then .ok ((sortPs (ks.zip (kvs.map fun kv => D.tup (kv.1.map keyDd)))).map (·.2)) else .bad
  | _, _ => .bad
def addK (l : List (List Key)) (k : List Key) : List (List Key) := if (l.any fun x => decide (x = k)) = true then l else l ++ [k]
def keysT : List D → Option (List (List Key))
  | [] => some []
  | .tup es :: r => match keysD es, keysT r with
    | some k, some ks => some (k :: ks)
    | _, _ => none
  | _ :: _ => none
def eLenSet (f : DSt → M D) (sd : DSt) : M D := (f sd).bind fun d => match d with
  | .lst ds => (match keysT ds with
    | some ks => if ds.length ≤ 200 then .ok (.int (ks.foldl addK []).length) else .bad
    | none => .bad)
  | _ => .bad
def idxB : List Bool → Option Nat
  | [] => none
  | true :: _ => some 0
  | false :: r => (idxB r).map (· + 1)
def eIndexT (f : DSt → M D) (sd : DSt) : M D := (f sd).bind fun d => match d with
  | .lst ds => (match boolsOf ds with
    | some bs => (match idxB bs with
      | some n => if n ≤ 1000 then .ok (.int (n : Int)) else .bad
      | none => .bad)
    | none => .bad)
  | _ => .bad
end DL

set_option maxHeartbeats 4000000
set_option linter.all false
set_option maxRecDepth 100000
namespace DL
open PySem PySem.Spec PyProof.Rows L2 PySem.W PySem.SeqAt
/-! ### max of three ints -/
section
variable {prog : Program} {w : World} {A : Around} {E : Value → Shared → Prop} {s : Shared}
theorem args_max3 (a b c : Value) : argsOk "max" ⟨[a, b, c], []⟩ := by unfold argsOk; kernel_rfl
theorem call_max_three {a b c : Value} {Q : Value → Shared → Prop}
    (h : wpAny (model prog w) A.in1 (pyIter (.ref s.heap.objs.size)) (fun it s₂ => ∃ I fp wr n P St bt, it = .ref I ∧ Walks prog w A.in1 I fp wr n P St ∧ St 0 s₂.heap ∧ (∀ b ∈ fp, b < s₂.heap.objs.size) ∧ 0 < n ∧ CmpOf prog w A.in1 .Gt P bt ∧
      ∀ v h' tk, P (argBest bt (n - 1)) v → (∀ b o, b ∉ wr → s₂.heap.get? b = some o → h'.get? b = some o) → Q v { s₂ with heap := h', toks := tk }) E
      { s with heap := s.heap.push { cls := .type "tuple", data := .seq #[a, b, c] } }) :
    wpAny (model prog w) A (call (.builtin "max") [a, b, c]) Q E s := by
  have hname : (toString "max" ++ toString ".loop" : String) = "max.loop" := by decide
  refine call_function_tree PySem.F.kind_max PySem.F.plain_max PySem.F.entry_max (args_max3 _ _ _) ?_
  show wpAny _ A.in1 (Builtin.Builtins.bindParams "max" ["key", "default"] 0 ⟨[], []⟩ >>= _) _ _ s
  refine wpAny_bind (wpAny_of_eq (show Builtin.Builtins.bindParams "max" ["key", "default"] 0 ⟨[], []⟩ = pure [none, none] from rfl) ?_)
  show wpAny _ A.in1 (newTuple [a, b, c] >>= _) _ _ s
  refine wpAny_bind (wpAny_newObj_type ?_)
  refine wpAny_bind (wpAny_mono h (fun it s₂ h₂ => ?_) fun _ _ e => e)
  obtain ⟨I, fp, wr, n, P, St, bt, rfl, W, hst, hfp, hn, hcmp, hQ⟩ := h₂
  refine wpAny_bind (wpAny_newObj_type ?_)
  have hSf : s₂.heap.objs.size ∉ fp := fun hm => Nat.lt_irrefl _ (hfp _ hm)
  rw [hname]
  refine wpAny_pure ⟨plainId_quiet PySem.F.plain_max_loop _, codeAny_max_loop_first W bt hcmp s₂.heap.objs.size hSf hn (W.frame _ _ _ hst fun b _ o e => Heap.get?_push_of_some _ e) (Heap.get?_push_size _ rfl) fun v h' tk hP hk => ?_⟩
  exact hQ v h' tk hP fun b o hbw e => hk b o hbw (Nat.ne_of_lt (Heap.lt_size e)) (Heap.get?_push_of_some _ e)
theorem max_three_ints {a b c : Int} {t u v : Tok} {Q : Value → Shared → Prop} (hh : A.handled = none)
    (h : ∀ h' tk x, (∀ c o, s.heap.get? c = some o → h'.get? c = some o) → Q (.int (max (max a b) c) x) { s with heap := h', toks := tk }) :
    wpAny (model prog w) A (call (.builtin "max") [.int a t, .int b u, .int c v]) Q E s := by
  have hT : (s.heap.push { cls := .type "tuple", data := .seq #[.int a t, .int b u, .int c v] }).IsTuple s.heap.objs.size (intItems #[(a, t), (b, u), (c, v)]) := ⟨_, Heap.get?_push_size _ rfl, rfl, 0, by simp [intItems]⟩
  refine call_max_three (wpAny_pyIter_tuple hT ?_)
  have hsz : (s.heap.push { cls := .type "tuple", data := .seq #[.int a t, .int b u, .int c v] }).objs.size = s.heap.objs.size + 1 := Heap.size_push ..
  refine ⟨_, [_, s.heap.objs.size], [_], _, _, _, _, rfl, Walks.tuple (A := A.in1) hh _ s.heap.objs.size (by rw [hsz]; exact Nat.ne_of_lt (Nat.lt_succ_self _)) (intItems #[(a, t), (b, u), (c, v)]),
    ⟨⟨_, Heap.get?_push_size _ rfl, rfl, rfl⟩, hT.push _⟩, fun c hc => ?_, by simp [intItems], CmpOf.ints_gt (numAt #[(a, t), (b, u), (c, v)]) (fun _ _ => intItems_at), fun x h' tk hP hk => ?_⟩
  · show c < ((s.heap.push _).push _).objs.size
    rw [Heap.size_push, hsz]
    rcases List.mem_cons.mp hc with rfl | hc
    · rw [hsz]; exact Nat.lt_succ_self _
    · rcases List.mem_cons.mp hc with rfl | hc
      · exact Nat.lt_succ_of_lt (Nat.lt_succ_self _)
      · cases hc
  · have hold : ∀ c o, s.heap.get? c = some o → h'.get? c = some o := fun c o e => by
      refine hk c o (fun hm => ?_) (Heap.get?_push_of_some _ (Heap.get?_push_of_some _ e))
      rcases List.mem_cons.mp hm with e1 | hm
      · have := Heap.lt_size e; rw [e1, hsz] at this; exact Nat.lt_irrefl _ (Nat.lt_of_succ_lt this)
      · cases hm
    have hv : ∃ y, x = Value.int (max (max a b) c) y := by
      have hP' : (intItems #[(a, t), (b, u), (c, v)])[argBest (fun i j => decide (numAt #[(a, t), (b, u), (c, v)] i > numAt #[(a, t), (b, u), (c, v)] j)) 2]? = some x := by
        have hsz2 : (intItems #[(a, t), (b, u), (c, v)]).size - 1 = 2 := by simp [intItems]
        rw [← hsz2]; exact hP
      by_cases h1 : b > a
      · by_cases h2 : c > b
        · have e : argBest (fun i j => decide (numAt #[(a, t), (b, u), (c, v)] i > numAt #[(a, t), (b, u), (c, v)] j)) 2 = 2 := by simp [argBest, numAt, h1, h2]
          rw [e] at hP'
          refine ⟨v, ?_⟩
          rw [show max (max a b) c = c by omega]
          simpa [intItems] using hP'.symm
        · have e : argBest (fun i j => decide (numAt #[(a, t), (b, u), (c, v)] i > numAt #[(a, t), (b, u), (c, v)] j)) 2 = 1 := by simp [argBest, numAt, h1, h2]
          rw [e] at hP'
          refine ⟨u, ?_⟩
          rw [show max (max a b) c = b by omega]
          simpa [intItems] using hP'.symm
      · by_cases h2 : c > a
        · have e : argBest (fun i j => decide (numAt #[(a, t), (b, u), (c, v)] i > numAt #[(a, t), (b, u), (c, v)] j)) 2 = 2 := by simp [argBest, numAt, h1, h2]
          rw [e] at hP'
          refine ⟨v, ?_⟩
          rw [show max (max a b) c = c by omega]
          simpa [intItems] using hP'.symm
        · have e : argBest (fun i j => decide (numAt #[(a, t), (b, u), (c, v)] i > numAt #[(a, t), (b, u), (c, v)] j)) 2 = 0 := by simp [argBest, numAt, h1, h2]
          rw [e] at hP'
          refine ⟨t, ?_⟩
          rw [show max (max a b) c = a by omega]
          simpa [intItems] using hP'.symm
    obtain ⟨y, rfl⟩ := hv
    exact h h' tk y hold
end
section
variable {X : Cx} {E : XK}
theorem call_max3 (hc : X.calm = true) : CallR X (.builtin "max") (fun xs H Q => ∃ a b c, xs = [.int a, .int b, .int c] ∧ Q (.int (max (max a b) c)) H) := by
  intro pins s σ H xs us Q I r h
  obtain ⟨a, b, c, rfl, q⟩ := h
  cases r with
  | cons r1 r =>
    cases r with
    | cons r2 r =>
      cases r with
      | cons r3 r =>
        cases r
        obtain ⟨t, rfl⟩ := r1
        obtain ⟨u, rfl⟩ := r2
        obtain ⟨v, rfl⟩ := r3
        refine max_three_ints (I.ok.hd hc) fun h' tk x keep => ?_
        exact ⟨.int (max (max a b) c), H, I.kept keep, ⟨x, rfl⟩, q⟩
theorem cd_max (hc : X.calm = true) : CallD X E (.builtin "max") bMax := by
  refine ⟨_, call_max3 hc, fun Hf H xs ds Q e r q => ?_⟩
  unfold bMax at q
  split at q
  · rename_i a b c
    obtain ⟨x, r1, rfl, h1, h2⟩ := reps_cons.mp r
    obtain ⟨y, r2, rfl, h3, h4⟩ := reps_cons.mp h2
    obtain ⟨z, r3, rfl, h5, h6⟩ := reps_cons.mp h4
    rw [reps_nil.mp h6, rep_int.mp h1, rep_int.mp h3, rep_int.mp h5]
    exact ⟨a, b, c, rfl, Po.ret (R := rV X.K) e q (rep_int.mpr rfl)⟩
  · exact q.elim
/-! ### xs.index(True) -/
def rIndexT (K : Frag) : V → List V → Hp → VK → Prop := fun x vs H Q => ∃ (l : Addr) (bs : List Bool) (n : Nat), x = .ref l ∧ vs = [.bl true] ∧ SqL K H l (bs.map V.bl) ∧ bs[n]? = some true ∧ (∀ m, m < n → bs[m]? = some false) ∧ n ≤ 1000 ∧ Q (.int (n : Int)) H
theorem bools_vals : ∀ {bs : List Bool} {its : List Value}, Vals (bs.map V.bl) its → its = bs.map Value.bool
  | [], _, .nil => rfl
  | b :: bs, _, .cons r t => by
    have r : _ = Value.bool b := r
    rw [r, bools_vals t]
    rfl
theorem mt_indexT : MtR X "list.index" (rIndexT X.K) := by
  intro pins s σ H x vs v us Q I rx rv h
  obtain ⟨l, bs, n, rfl, rfl, hq, h1, h2, h3, q⟩ := h
  cases rx
  obtain ⟨u, rfl, ru⟩ := vals1 rv
  cases (show u = Value.bool true from ru)
  obtain ⟨its, r, ⟨o, k, e, c1, c2, c3⟩, hz⟩ := I.list hq
  have hi := bools_vals r
  subst hi
  have hn := (List.getElem?_eq_some_iff.mp h1).1
  have hj : n < (bs.map Value.bool).toArray.size := by simpa using hn
  obtain ⟨oc, od, odt, osl⟩ := o
  simp only at c1 c2 c3
  subst c1 c2 c3
  refine call_meets PySem.F.slot_list_index ⟨_, e, rfl⟩ PySem.F.entry_list_index (PySem.F.args_list_index_2 _ _)
    (list_indexAt l (bs.map Value.bool).toArray k none osl (.bool true) (fun y => y == Value.bool true) n hj (by omega) ?_ fun m hm hlt => ?_) ⟨e, fun y hy => ?_, ?_⟩
  · have : bs[n] = true := by rw [List.getElem?_eq_getElem hn] at h1; simpa using h1
    simp [this]
  · have := h2 m hlt
    have hm' : m < bs.length := by simpa using hm
    rw [List.getElem?_eq_getElem hm'] at this
    have : bs[m] = false := by simpa using this
    simp [this]
  · obtain ⟨b, _, rfl⟩ : ∃ b, b ∈ bs ∧ Value.bool b = y := by simpa using hy
    have : (Value.bool b == Value.bool true) = (b == true) := by cases b <;> decide
    rw [this]
    exact EqAt.bool_bool b true
  · exact ⟨.int (n : Int), H, I.tok _, ⟨_, rfl⟩, q⟩
theorem idxB_at : ∀ {bs : List Bool} {n : Nat}, idxB bs = some n → bs[n]? = some true ∧ ∀ m, m < n → bs[m]? = some false
  | [], n, h => by cases h
  | true :: r, n, h => by
    cases h
    exact ⟨rfl, fun m hm => by omega⟩
  | false :: r, n, h => by
    unfold idxB at h
    cases q : idxB r with
    | none => rw [q] at h; cases h
    | some k =>
      rw [q] at h
      cases h
      obtain ⟨h2, h3⟩ := idxB_at q
      refine ⟨by simpa using h2, fun m hm => ?_⟩
      cases m with
      | zero => rfl
      | succ m => simpa using h3 m (by have : m + 1 < k + 1 := hm; omega)
theorem pd_indexT {o : Expr} {apos cpos p1 : Pos} {k : _} {f : DSt → M D} (h : PEd X E o f) (hbase : attributeBase o "index" X.env (eval o X.env) = eval o X.env := by rfl)
    (hfew : ((backTo cpos (starEach [Expr.Constant (.bool true) k p1] X.env)).all (fun x => !x.1) && (backToKw cpos (keywordEach [] X.env)).all (fun x => x.1.isSome)
      && decide (([Expr.Constant (.bool true) k p1] : List Expr).length + ([] : List Keyword).length + (if ([] : List Keyword).isEmpty then 0 else 1) < 30)) = true := by rfl)
    (hline : (apos.endLine == cpos.line) = true := by rfl) (hs : starEach [Expr.Constant (.bool true) k p1] X.env = (false, eval (Expr.Constant (.bool true) k p1) X.env) :: starEach [] X.env := by rfl) (hplain : (backTo cpos (starEach ([] : List Expr) X.env)).any (·.1) = false := by rfl) :
    PEd X E (.Call (.Attribute o "index" apos) [.Constant (.bool true) k p1] [] cpos) (eIndexT f) := by
  obtain ⟨t, p, q⟩ := h
  refine ⟨_, pe_bm PySem.F.plainAttrs_list PySem.F.slot_list_index PySem.F.type_list_index mt_indexT p (pa_cons pe_bl pa_nil hs) hbase hfew hline hs hplain, fun H0 B Hf sd σ H Q sr h => ?_⟩
  refine q H0 B Hf sd σ H _ sr (Po.bind h fun d v Hf1 H1 _ g1 rv h1 => ?_)
  split at h1
  · rename_i ds
    split at h1
    · rename_i bs eb
      split at h1
      · rename_i n en
        split at h1
        · rename_i hn
          obtain ⟨a, xs, rfl, hq, hr⟩ := rep_lst.mp rv
          have := boolsOf_reps eb hr
          subst this
          refine ⟨.inl ⟨rfl, _, g1.sub.seq hq⟩, ?_⟩
          obtain ⟨n2, n3⟩ := idxB_at en
          exact ⟨a, bs, n, rfl, rfl, g1.sub.seq hq, n2, n3, hn, Po.ret (R := rV X.K) g1.sub h1 (rep_int.mpr rfl)⟩
        · exact h1.elim
      · exact h1.elim
    · exact h1.elim
  · exact h1.elim
end
end DL

set_option maxHeartbeats 4000000
set_option linter.all false
set_option maxRecDepth 100000
namespace DL
open PySem PySem.Spec PyProof.Rows L2 PySem.W
theorem addK_iff (l : List (List Key)) (k : List Key) : (l.any fun x => decide (x = k)) = true ↔ k ∈ l := by
  rw [List.any_eq_true]
  constructor
  · rintro ⟨x, h1, h2⟩
    rw [← of_decide_eq_true h2]; exact h1
  · exact fun h => ⟨k, h, decide_eq_true rfl⟩
theorem addK_pos {l : List (List Key)} {k : List Key} (h : k ∈ l) : addK l k = l := by
  unfold addK
  rw [if_pos ((addK_iff l k).mpr h)]
theorem addK_neg {l : List (List Key)} {k : List Key} (h : ¬ k ∈ l) : addK l k = l ++ [k] := by
  unfold addK
  rw [if_neg (fun z => h ((addK_iff l k).mp z))]
theorem metK_fold (ks : List (List Key)) : ∀ n, n ≤ ks.length → HSet.metK (fun i => ks.getD i []) n = (ks.take n).foldl addK []
  | 0, _ => rfl
  | n + 1, h => by
    have ih := metK_fold ks n (by omega)
    have : ks.getD n [] = ks[n]'(by omega) := by rw [List.getD_eq_getElem?_getD, List.getElem?_eq_getElem (by omega)]; rfl
    have e : (ks.take (n + 1)).foldl addK [] = addK ((ks.take n).foldl addK []) (ks.getD n []) := by
      rw [List.take_succ_eq_append_getElem (by omega), List.foldl_append, this]
      rfl
    rw [e, HSet.metK, ← ih]
    split
    · rename_i hm
      exact (addK_pos hm).symm
    · rename_i hm
      exact (addK_neg hm).symm
section
variable {X : Cx} {E : XK}
def tLenS (K : Frag) (t : TA) : TE := fun σ H Q => t σ H fun xs H1 => ∃ (p : Addr) (zs : List V) (ks : List (List Key)), xs = [.ref p] ∧ SqL K H1 p zs ∧ zs.length = ks.length ∧ (∀ (i : Nat) (k : List Key), ks[i]? = some k → ∃ a, zs[i]? = some (.ref a) ∧ H1 a = some (.tup (k.map kV))) ∧ ks.length ≤ 200 ∧ Q (.int (ks.foldl addK []).length) H1
theorem pe_lenset {e : Expr} {p p2 pos pos2 : Pos} {t : TA} (hc : X.calm = true) (hu : X.A.units + 64 < cLine) (hg : Gl X "len") (hm : X.mg "len" = none) (hv : bootBuiltins "len" = some (.builtin "len")) (hg2 : Gl X "set") (hm2 : X.mg "set" = none) (hv2 : bootBuiltins "set" = some (.type "set")) (ha : PA X [e] t)
    (he : starEach [Expr.Call (.Name "set" p2) [e] [] pos2] X.env = (false, eval (Expr.Call (.Name "set" p2) [e] [] pos2) X.env) :: starEach [] X.env := by rfl) (hpl : (backTo pos (starEach [] X.env)).any (·.1) = false := by rfl)
    (he2 : starEach [e] X.env = (false, eval e X.env) :: starEach [] X.env := by rfl) (hpl2 : (backTo pos2 (starEach [] X.env)).any (·.1) = false := by rfl) :
    PE X (.Call (.Name "len" p) [.Call (.Name "set" p2) [e] [] pos2] [] pos) (tLenS X.K t) := by
  intro pins s σ H Q I h
  refine wpAny_Call_Name_kw (ld_blt I hg hm hv ?_ (by decide) (by decide))
  refine PyProof.Rows.callWith_builtin1 ?_ he hpl
  rw [he]
  show wpAny _ _ (spliced ((false, eval (Expr.Call (.Name "set" p2) [e] [] pos2) X.env) :: backTo pos (starEach [] X.env))) _ _ s
  refine Calls.spliced_cons ?_
  refine wpAny_Call_Name_kw (ld_blt I hg2 hm2 hv2 ?_ (by decide) (by decide))
  refine PyProof.Rows.callWith_type1 (thn (ha pos2 pins s σ H _ I h) fun us s1 ⟨vs, H1, I1, r1, q1⟩ => ?_) he2 hpl2
  obtain ⟨a, zs, ks, rfl, hp, hl, hk, hn, q⟩ := q1
  obtain ⟨u, rfl, rx⟩ := vals1 r1
  cases rx
  obtain ⟨its, rv, pl, hz⟩ := I1.list hp
  have hlen : its.length = ks.length := by rw [← rv.length, hl]
  refine HSet.call_setH (knd := mixKind X.prog X.w) (val := fun i => ks.getD i []) (I1.ok.hd hc) hu pl.isList (fun i v hv => ?_) (by rw [List.size_toArray]; omega) fun h' tk hS keep => ?_
  · have hv : its[i]? = some v := by simpa using hv
    have hi := (List.getElem?_eq_some_iff.mp hv).1
    have hi' : i < ks.length := by omega
    obtain ⟨b, e1, e2⟩ := hk i ks[i] (List.getElem?_eq_getElem hi')
    obtain ⟨w', e3, e4⟩ := rv.get e1
    rw [hv] at e3
    cases e3
    cases e4
    refine ⟨b, rfl, ?_⟩
    have : ks.getD i [] = ks[i] := by rw [List.getD_eq_getElem?_getD, List.getElem?_eq_getElem hi']; rfl
    rw [this]
    obtain ⟨_, its', r', ⟨o, g1, g2, n, g3⟩⟩ := I1.hok b _ e2
    exact ⟨o, _, n, g1, g2, g3, by simpa using items_are r'⟩
  have hlt : ∀ b o, s1.heap.get? b = some o → h'.get? b = some o := fun b o e => keep b o (Heap.lt_size e) e
  have I2 : Inv X pins σ H1 { s1 with heap := h', toks := tk } := I1.kept hlt
  refine Calls.spliced_nil ?_
  rw [show its.toArray.size = ks.length from List.size_toArray.trans hlen, metK_fold ks ks.length (Nat.le_refl _), List.take_length] at hS
  refine HSet.call_lenH (s := { s1 with heap := h', toks := tk }) hS ?_ fun t' tk' => ?_
  · have := HSet.metK_len (fun i => ks.getD i []) ks.length
    rw [metK_fold ks ks.length (Nat.le_refl _), List.take_length] at this
    omega
  · exact ⟨.int _, H1, I2.tok _, ⟨t', rfl⟩, q⟩
theorem keysT_reps {K : Frag} {H : Hp} : ∀ {ds : List D} {ks : List (List Key)} {zs : List V}, keysT ds = some ks → Reps K H ds zs → zs.length = ks.length ∧ ∀ (i : Nat) (k : List Key), ks[i]? = some k → ∃ a, zs[i]? = some (.ref a) ∧ H a = some (.tup (k.map kV))
  | [], ks, zs, h, r => by
    cases h
    rw [reps_nil.mp r]
    exact ⟨rfl, fun i k hk => by simp at hk⟩
  | d :: ds, ks, zs, h, r => by
    obtain ⟨x, t, rfl, h1, h2⟩ := reps_cons.mp r
    cases d with
    | tup es =>
      unfold keysT at h
      split at h
      · rename_i k ks' e1 e2
        cases h
        obtain ⟨l, ih⟩ := keysT_reps e2 h2
        refine ⟨by rw [List.length_cons, List.length_cons, l], fun i k' hk => ?_⟩
        cases i with
        | zero =>
          simp at hk
          subst hk
          obtain ⟨a, xs, rfl, e3, e4⟩ := rep_tup.mp h1
          rw [keysD_reps e1 e4] at e3
          exact ⟨a, rfl, e3⟩
        | succ i =>
          obtain ⟨a, e3, e4⟩ := ih i k' (by simpa using hk)
          exact ⟨a, by simpa using e3, e4⟩
      · cases h
    | _ => cases h
theorem pd_lenset {e : Expr} {p p2 pos pos2 : Pos} {f : DSt → M D} (hc : X.calm = true) (hu : X.A.units + 64 < cLine) (hg : Gl X "len") (hm : X.mg "len" = none) (hv : bootBuiltins "len" = some (.builtin "len")) (hg2 : Gl X "set") (hm2 : X.mg "set" = none) (hv2 : bootBuiltins "set" = some (.type "set")) (ha : PEd X E e f)
    (he : starEach [Expr.Call (.Name "set" p2) [e] [] pos2] X.env = (false, eval (Expr.Call (.Name "set" p2) [e] [] pos2) X.env) :: starEach [] X.env := by rfl) (hpl : (backTo pos (starEach [] X.env)).any (·.1) = false := by rfl)
    (he2 : starEach [e] X.env = (false, eval e X.env) :: starEach [] X.env := by rfl) (hpl2 : (backTo pos2 (starEach [] X.env)).any (·.1) = false := by rfl) :
    PEd X E (.Call (.Name "len" p) [.Call (.Name "set" p2) [e] [] pos2] [] pos) (eLenSet f) := by
  obtain ⟨t, pt, qt⟩ := ha
  refine ⟨_, pe_lenset hc hu hg hm hv hg2 hm2 hv2 (pa_cons pt pa_nil he2) he hpl he2 hpl2, fun H0 B Hf sd σ H Q sr h => ?_⟩
  refine qt H0 B Hf sd σ H _ sr (Po.bind h fun d v Hf1 H1 _ g1 rv h1 => ?_)
  split at h1
  · rename_i ds
    split at h1
    · rename_i ks ek
      split at h1
      · rename_i hn
        obtain ⟨a, xs, rfl, hq, hr⟩ := rep_lst.mp rv
        obtain ⟨l1, l2⟩ := keysT_reps ek hr
        refine ⟨a, xs, ks, rfl, g1.sub.seq hq, l1, fun i k hk => ?_, by rw [← l1, ← hr.length]; exact hn, Po.ret (R := rV X.K) g1.sub h1 (rep_int.mpr rfl)⟩
        obtain ⟨b, e1, e2⟩ := l2 i k hk
        exact ⟨b, e1, g1.sub _ _ e2⟩
      · exact h1.elim
    · exact h1.elim
  · exact h1.elim
end
end DL

set_option maxHeartbeats 4000000
set_option linter.all false
set_option maxRecDepth 100000
namespace DL
open PySem PySem.Spec PyProof.Rows L2 PySem.W
/-! ### a lambda is made -/
def BltAt (mg : Str → Option Value) (base : Heap) : Prop := ∃ bm ob, mg "__builtins__" = some (.ref bm) ∧ bm ≠ builtinsNs ∧ base.get? bm = some ob ∧ ob.cls = .type "module" ∧ ob.dict = some builtinsNs ∧ ob.data = .plain
theorem lam_made {X : Cx} {pins : List (Addr × Obj)} {σ : L2.St} {H : Hp} {s : Shared} {A : Around} {E : Value → Shared → Prop} {Q : Value → Shared → Prop} {params : Arguments} {body : Expr} {lscope : Scope} {lpos : Pos} {cT P : Addr} {qual : Str} {clos : List (Str × Addr)}
    (I : Inv X pins σ H s) (hT : H P = some (.tbl (rawInt lpos.line) (rawInt lpos.col) qual)) (hcode : X.env.code = .ref cT) (hC : codeHdIn X.K cT P = true) (hB : BltAt X.mg X.base) (hq : X.env.qual ++ "<lambda>" = qual) (hcl : closureFor lscope X.env = pure clos) (hdef : defaultsOf params X.env = ([], []))
    (h : ∀ (f c' : Addr) (oc : Obj) (vs : Array Value) (t : Tok) (ctv : Value) (H' : Hp) (h' : Heap) (tk : Tok), (H' = H ∨ (H c' = none ∧ H' = upd H c' (.frz oc (.own 0)))) → H' c' = some (.frz oc (.own 0)) → oc.data = .fields vs → vs[1]? = some (.str qual t) →
      Inv X pins σ H' { s with heap := h', toks := tk } → s.heap.objs.size ≤ f → h'.get? f = some (kla_obj "<lambda>" qual params body lscope clos ((X.mg "__name__").getD .none) c' ctv) → H' f = none → f < h'.objs.size → Q (.ref f) { s with heap := h', toks := tk }) :
    wpAny (model X.prog X.w) A (eval (.Lambda params body lscope lpos) X.env) Q E s := by
  refine kla_eval hdef ?_
  rw [hq]
  have hg : s.heap.Ns mainGlobals X.mg := I.mod.glob.keeps I.bk
  obtain ⟨bm, ob, b1, b2, b3, b4, b5, b6⟩ := hB
  have b3' := I.bk _ _ b3
  obtain ⟨ps, eP, r⟩ := I.hok P _ hT
  have hgP : mainGlobals ≠ P := fun z => by
    obtain ⟨o, es, ep, e, hd, _⟩ := hg
    rw [z, eP] at e; cases e; cases hd
  have hbP : bm ≠ P := fun z => by
    rw [z, eP] at b3'; cases b3'; cases b4
  have hbG : bm ≠ mainGlobals := fun z => by
    obtain ⟨o, es, ep, e, hd, _⟩ := hg
    rw [← z, b3'] at e; cases e; rw [b6] at hd; cases hd
  have hb : s.heap.BuiltinsAt X.mg P := ⟨bm, ob, b1, b2, hbG, hbP, b3', b4, b5, b6⟩
  have C : CodeHd s.heap cT P := codeHd_of_K I.kIn hC
  rcases r with rfl | ⟨b, oc, vs, t, rfl, e1, e2, e3⟩
  · refine kla_makeFunction (mg := X.mg) hcl I.ok.glob hg hcode C eP trivial rfl hgP hb fun c' ctv h' tk hx hge hlt hrec htb => ?_
    obtain ⟨c₂, oc, vs, t, z, hoc, hd, hv⟩ := hrec
    cases z
    have hn : H c' = none := I.hok.fresh hge
    have hcP : c' ≠ P := fun z => by rw [z, hT] at hn; cases hn
    generalize hfo : kla_obj "<lambda>" qual params body lscope clos ((X.mg "__name__").getD .none) c' ctv = fo
    have lt : ∀ {b : Addr} {o : Obj}, s.heap.get? b = some o → b ≠ c' := fun e => Nat.ne_of_lt (Nat.lt_of_lt_of_le (Heap.lt_size e) hge)
    have k1 : ∀ b o, b ≠ P → s.heap.get? b = some o → (h'.push fo).get? b = some o := fun b o nb e => Heap.get?_push_of_some _ (hx b o nb e)
    have nP : ∀ b, H b = none → b ≠ P := fun b n z => by rw [z, hT] at n; cases n
    have I2 : Inv X pins σ (upd H c' (.frz oc (.own 0))) { s with heap := h'.push fo, toks := tk } := by
      refine I.un (t' := tk) ⟨fun b o e n _ _ => k1 b o (nP b n) e, fun b o e n _ _ => ⟨o.slots, k1 b o (nP b n) e⟩, fun b o e n _ => by rw [upd_ne (lt e)]; exact n, fun b o e _ => ?_, fun b xs q => by rw [upd_ne (ne_of_none q hn)]; exact q, fun b o u q => by rw [upd_ne (ne_of_none q hn)]; exact q, fun b l c q' q => by rw [upd_ne (ne_of_none q hn)]; exact q⟩ fun b u e => ?_
      · by_cases hbP : b = P
        · exact ⟨_, hbP ▸ Heap.get?_push_of_some _ htb⟩
        · exact ⟨o, k1 b o hbP e⟩
      · by_cases hbc : b = c'
        · subst hbc
          rw [upd_same] at e
          cases e
          exact ⟨Heap.get?_push_of_some _ hoc, _, Heap.get?_push_of_some _ hoc⟩
        · rw [upd_ne hbc] at e
          by_cases hbP : b = P
          · subst hbP
            rw [hT] at e
            cases e
            exact ⟨_, Heap.get?_push_of_some _ htb, .inr ⟨c', oc, vs, t, rfl, upd_same, hd, hv⟩⟩
          · refine (I.hok b u e).stay (fun d v hd' g => k1 d v ?_ g) (fun d q => by rw [upd_ne (ne_of_none q hn)]; exact q) (fun d xs q => by rw [upd_ne (ne_of_none q hn)]; exact q) fun d o' u' q => by rw [upd_ne (ne_of_none q hn)]; exact q
            rcases hd' with z | z
            · rw [z]; exact hbP
            · exact fun w' => by rw [w', hT] at z; cases z
    refine h h'.objs.size c' oc vs t ctv _ _ tk (.inr ⟨hn, rfl⟩) upd_same hd hv I2 (Nat.le_of_lt (Nat.lt_of_le_of_lt hge hlt)) ?_ ?_ ?_
    · subst hfo; exact Heap.get?_push_size _ rfl
    · rw [upd_ne (Nat.ne_of_gt hlt)]
      exact I.hok.fresh (Nat.le_of_lt (Nat.lt_of_le_of_lt hge hlt))
    · rw [Heap.size_push]; exact Nat.lt_succ_self _
  · refine kla_makeFunctionHit (mg := X.mg) (cv := .ref b) hcl I.ok.glob hg hcode C eP (by simp [TriplesOk, rawInt]) (by simp [codeAmong, rawInt]) hb fun ctv h' tk k hsz => ?_
    refine h h'.objs.size b oc vs t ctv H _ tk (.inl rfl) e1 e2 e3 (I.kept fun b' u e => Heap.get?_push_of_some _ (k b' u e)) hsz (Heap.get?_push_size _ rfl) (I.hok.fresh hsz) ?_
    rw [Heap.size_push]; exact Nat.lt_succ_self _
/-! ### it is called -/
def cxL (X : Cx) (A : Around) (env' : Env) (N' : List Str) (s : Shared) (H : Hp) : Cx :=
  { X with A := A.deeper env', N := N', s₀ := s, H₀ := H, env := env', outer := X.stack, stack := env' :: X.stack, ex := [], fn := fun _ => false, calm := true, pn := [], xe := fun _ _ => False }
/-- the scope of a lambda of one parameter that sees one name of its def's -/
structure LScope (sc : Scope) (one seen : Str) : Prop where
  kind : sc.kind = .function
  co : sc.isCoroutine = false
  gen : sc.isGenerator = false
  par : sc.names.lookup one = some .local
  see : sc.names.lookup seen = some .free
  nocell : ∀ x ∈ sc.names, x.2 ≠ .cell
  only : ∀ x ∈ sc.names, x.2 = .free → x.1 = seen
theorem inv_lam {X : Cx} {pins : List (Addr × Obj)} {σ : L2.St} {H : Hp} {s : Shared} {A : Around} {f c' cell : Addr} {qual one seen : Str} {lscope : Scope} {h₁ : Heap} {tk : Tok} {y z : V} {x : Value} {j : Nat}
    (I : Inv X pins σ H s) (hA : A.frames = some X.stack) (hh : A.handled = none) (S : LScope lscope one seen) (hcell : X.env.cells.lookup seen = some cell) (hj : X.N[j]? = some seen) (hz : σ[j]? = some (some z)) (hk : X.env.kindOf seen = some .cell) (hy : RelV y x)
    (hns : h₁.Ns s.heap.objs.size (fun n => [(one, x)].reverse.lookup n)) (hk₁ : ∀ b o, s.heap.get? b = some o → h₁.get? b = some o) :
    Inv (cxL X A (envX qual lscope s.heap.objs.size f (.ref c') [(seen, cell)]) [one, seen] s H) [] [some y, some z] H { s with heap := h₁, toks := tk } := by
  have noA : ∀ b : Addr, b ∉ (cxL X A (envX qual lscope s.heap.objs.size f (.ref c') [(seen, cell)]) [one, seen] s H).ex := fun b z => absurd (show b ∈ ([] : List Addr) from z) (by simp)
  have only : ∀ n c, ([(seen, cell)] : List (Str × Addr)).lookup n = some c → n = seen ∧ c = cell := fun n c e => by
    rw [List.lookup_cons] at e
    cases q : n == seen with
    | true => rw [q] at e; cases e; exact ⟨eq_of_beq q, rfl⟩
    | false => rw [q] at e; cases e
  obtain ⟨m, hn, hl⟩ := id I.loc
  obtain ⟨u, ru, lk⟩ := hl j seen z hj hz (.inr (.inl hk))
  have isc : s.heap.IsCell cell (some u) := by
    rcases lk with ⟨k, _⟩ | ⟨_, c, e1, e2⟩
    · rw [hk] at k; cases k
    · rw [hcell] at e1; cases e1; exact e2
  obtain ⟨oc, goc, doc⟩ := isc
  have e0 := I.env0
  refine ⟨⟨I.ok.mod, S.kind, rfl, rfl, Nat.le_refl _, fun a b c h1 h2 => ?_, fun a ha => ?_, fun a c z => (by cases z), fun _ => hh, Around.frames_deeper hA, .inr ⟨rfl, rfl⟩, fun b z => absurd z (noA b), e0.bs, e0.bsz, fun b _ _ => noA b, fun b z => absurd z (noA b), e0.funs, e0.frf⟩,
    rfl, I.bare, Un.kept hk₁, ⟨_, hns, fun i n v h1 h2 h3 => ?_⟩, fun n c h => ?_, I.hok.fresh (Nat.le_refl _), fun n c h => ?_, fun p hp => absurd (show p ∈ ([] : List (Addr × Obj)) from hp) (by simp), I.hok.kept hk₁, rfl⟩
  · rw [(only a c h1).1, (only b c h2).1]
  · have ha : lscope.names.lookup a = some .cell ∨ lscope.names.lookup a = some .free := ha
    rcases ha with ha | ha
    · exact absurd rfl (S.nocell _ (PySem.mem_of_lookup ha))
    · have := S.only _ (PySem.mem_of_lookup ha) rfl
      have : a = seen := this
      subst this
      exact ⟨cell, by show ([(a, cell)] : List (Str × Addr)).lookup a = _; simp⟩
  · match i, h1, h2 with
    | 0, h1, h2 =>
      have h1 : some one = some n := h1
      cases h1
      have h2 : some (some y) = some (some v) := h2
      cases h2
      exact ⟨x, hy, .inl ⟨S.par, by simp⟩⟩
    | 1, h1, h2 =>
      have h1 : some seen = some n := h1
      cases h1
      have h2 : some (some z) = some (some v) := h2
      cases h2
      exact ⟨u, ru, .inr ⟨.inr S.see, cell, by show ([(seen, cell)] : List (Str × Addr)).lookup seen = _; simp, oc, hk₁ _ _ goc, doc⟩⟩
    | i + 2, h1, h2 => cases h1
  · have h : ([(seen, cell)] : List (Str × Addr)).lookup n = some c := h
    obtain ⟨rfl, rfl⟩ := only n c h
    exact ⟨_, oc, hk₁ _ _ goc, doc⟩
  · have h : ([(seen, cell)] : List (Str × Addr)).lookup n = some c := h
    obtain ⟨rfl, rfl⟩ := only n c h
    exact I.freeC _ _ hcell
def Fz (H H' : Hp) : Prop := ∀ b o u, H b = some (.frz o u) → H' b = some (.frz o u)
theorem lam_call {X : Cx} {pins : List (Addr × Obj)} {σ : L2.St} {H : Hp} {s : Shared} {A : Around} {E : Value → Shared → Prop} {f c' cell : Addr} {qual one seen : Str} {params : Arguments} {body : Expr} {lscope : Scope} {pm ctv : Value} {y z : V} {x : Value} {j : Nat} {oc : Obj} {vs : Array Value} {t : Tok} {tb : TE} {Q : VK}
    (I : Inv X pins σ H s) (hA : A.frames = some X.stack) (hh : A.handled = none) (hdp : A.depth < recursionLimit) (S : LScope lscope one seen) (hcell : X.env.cells.lookup seen = some cell) (hj : X.N[j]? = some seen) (hz : σ[j]? = some (some z)) (hk : X.env.kindOf seen = some .cell) (hy : RelV y x)
    (ho : s.heap.get? f = some (kla_obj "<lambda>" qual params body lscope [(seen, cell)] pm c' ctv)) (hc : H c' = some (.frz oc (.own 0))) (hd : oc.data = .fields vs) (hv : vs[1]? = some (.str qual t))
    (hbind : ∀ x : Value, bindArgs (kla_fn "<lambda>" qual params body lscope [(seen, cell)] pm (.ref c') ctv) ⟨[x], []⟩ = pure [(one, x)])
    (hb : ∀ (s : Shared) (H : Hp), PE (cxL X A (envX qual lscope s.heap.objs.size f (.ref c') [(seen, cell)]) [one, seen] s H) body tb) (ht : tb [some y, some z] H Q) :
    wpAny (model X.prog X.w) A (call (.ref f) [x]) (EP X pins σ fun v H' => Q v H' ∧ Fz H H') E s := by
  have hcd : s.heap.CodeRec (.ref c') qual := ⟨c', oc, vs, t, rfl, (I.hok c' _ hc).1, hd, hv⟩
  refine wpAny_call (codeAny_mono (kla_callFunE (R := CR CX0 X.stack X.prog X.w H s Q E0) hdp ho rfl S.co S.gen rfl hcd ?_) fun r s' hq => ?_)
  · rw [hbind x]
    refine wpAny_pure (wpAny_newFunctionEnv S.nocell (fun n hn => ?_) (fun h₁ hns hsb => ⟨(I.nolimit).fresh _ hsb, ?_⟩) S.kind)
    · have : n = (one, x) := by simpa using hn
      rw [this]; exact S.par
    show codeAny _ _ (.expr body (envX qual lscope s.heap.objs.size f (.ref c') [(seen, cell)])) _ _
    have hk₁ : ∀ b o, s.heap.get? b = some o → h₁.get? b = some o := fun b o e => hsb.extBut b o (Nat.ne_of_lt (Heap.lt_size e)) (Heap.get?_push_of_some _ e)
    have I2 := inv_lam (f := f) (c' := c') (qual := qual) (tk := s.toks + ([(one, x)] : List (Str × Value)).length) I hA hh S hcell hj hz hk hy hns hk₁
    refine kla_codeExpr (wpAny_mono (hb s H [] _ _ H Q I2 ht) (fun v s' hq => ?_) fun _ _ e => e.elim)
    obtain ⟨v', H', J, rv, q⟩ := hq
    exact ⟨v', H', J.os, J.bare, J.base, J.hok, rv, q⟩
  · cases r with
    | error e => exact False.elim hq
    | ok fl =>
      cases fl with
      | ret u =>
        obtain ⟨v', H', o1, o2, un, o4, o5, o6⟩ := hq
        exact I.after ⟨v', H', o1, o2, un, o4, o5, o6, un.frzs⟩
      | next => exact False.elim hq
      | brk => exact False.elim hq
      | cont => exact False.elim hq
end DL

set_option maxHeartbeats 4000000
set_option linter.all false
set_option maxRecDepth 100000
namespace DL
open PySem PySem.Spec PyProof.Rows L2 PySem.W
theorem perm_paired {α β : Type} {R : α → β → Prop} : ∀ {us out : List β}, out.Perm us → ∀ {zs : List α}, Paired R zs us → ∃ zs', zs'.Perm zs ∧ Paired R zs' out := by
  intro us out p
  induction p with
  | nil => intro zs r; exact ⟨zs, List.Perm.refl _, r⟩
  | cons x _ ih =>
    intro zs r
    cases r with
    | cons h t =>
      obtain ⟨zs', p, q⟩ := ih t
      exact ⟨_, p.cons _, .cons h q⟩
  | swap x y l =>
    intro zs r
    cases r with
    | cons h t =>
      cases t with
      | cons h2 t => exact ⟨_, List.Perm.swap _ _ _, .cons h2 (.cons h t)⟩
  | trans _ _ ih1 ih2 =>
    intro zs r
    obtain ⟨z1, p1, q1⟩ := ih2 r
    obtain ⟨z2, p2, q2⟩ := ih1 q1
    exact ⟨z2, p2.trans p1, q2⟩
theorem paired_get {α β : Type} {R : α → β → Prop} : ∀ {zs : List α} {us : List β} {i : Nat} {z : α}, Paired R zs us → zs[i]? = some z → ∃ u, us[i]? = some u ∧ R z u
  | _, _, _, _, .nil, e => by simp at e
  | _, _, 0, _, .cons r _, e => by simp at e; subst e; exact ⟨_, rfl, r⟩
  | _, _, i + 1, z, .cons _ t, e => by
    obtain ⟨u, h1, h2⟩ := paired_get (i := i) (z := z) t (by simpa using e)
    exact ⟨u, by simpa using h1, h2⟩
abbrev R2P (p : V × V) (q : Value × Value) : Prop := RelV p.1 q.1 ∧ RelV p.2 q.2
theorem zip_paired : ∀ {ks : List V} {kus : List Value} {xs : List V} {us : List Value}, Vals ks kus → Vals xs us → Paired R2P (ks.zip xs) (kus.zip us)
  | _, _, _, _, .nil, _ => .nil
  | _, _, _, _, .cons _ _, .nil => .nil
  | _, _, _, _, .cons r t, .cons r' t' => .cons ⟨r, r'⟩ (zip_paired t t')
theorem snd_vals : ∀ {zs : List (V × V)} {us : List (Value × Value)}, Paired R2P zs us → Vals (zs.map (·.2)) (us.map (·.2))
  | _, _, .nil => .nil
  | _, _, .cons r t => .cons r.2 (snd_vals t)
/-! ### rows are asked -/
section
variable {X : Cx} {pins : List (Addr × Obj)} {σ : L2.St} {H : Hp} {s : Shared}
theorem rows_kind {zs : List V} {ys : List (List V)} {its : List Value} (I : Inv X pins σ H s) (hr : RowsT H zs ys) (rv : Vals zs its) (hc : CndV ys) :
    ∃ o : Bool, 2 ≤ its.length → ∀ A' E' (Q : SortKind → Shared → Prop), Q (tuples' o) s → wpAny (model X.prog X.w) A' (keyKind' its.toArray) Q E' s := by
  have rows := rows_h I hr rv
  have hl := rv.length
  obtain ⟨⟨sg, sg1, sg2⟩, inj⟩ := hc
  have headOf : ∀ y ∈ ys, (sg.head? = some 1 → headS y = true) ∧ (sg.head? = some 0 → headI y = true) := fun y hy => by
    have e := sg1 y hy
    cases y with
    | nil => unfold sigs at e; cases e; simp
    | cons v y =>
      unfold sigs at e
      split at e
      · rename_i a b e1 e2
        cases e
        refine ⟨fun q => ?_, fun q => ?_⟩
        · simp at q; subst q
          cases v <;> simp [sigV] at e1 <;> rfl
        · simp at q; subst q
          cases v <;> simp [sigV] at e1 <;> rfl
      · cases e
  rcases sg2 with q | q
  · have hh : ys.all headI = true := List.all_eq_true.mpr fun y hy => (headOf y hy).2 q
    refine ⟨Value.type "int" != Value.type "tuple", fun h2 A' E' Q hQ => ?_⟩
    obtain ⟨fs, k1, k2, k3⟩ := rows.firstI hh
    exact kat_kind (s := s) (T := Value.type "int") k1 (by lia) (fun v hv => by obtain ⟨x, t, rfl⟩ := k2 v hv; exact Looks.of_pure rfl) (by rfl) hQ
  · have hh : ys.all headS = true := List.all_eq_true.mpr fun y hy => (headOf y hy).1 q
    refine ⟨Value.type "str" != Value.type "tuple", fun h2 A' E' Q hQ => ?_⟩
    obtain ⟨fs, k1, k2, k3⟩ := rows.firstS hh
    exact kat_kind (s := s) (T := Value.type "str") k1 (by lia) (fun v hv => by obtain ⟨x, t, rfl⟩ := k2 v hv; exact Looks.of_pure rfl) (by rfl) hQ
theorem rows_lt {zs : List V} {ys : List (List V)} {its : List Value} {A' : Around} {E' : Value → Shared → Prop} {o : Bool} (I : Inv X pins σ H s) (hr : RowsT H zs ys) (rv : Vals zs its) (hc : CndV ys) : TS.LtOk X.prog X.w A' E' s (rowKind H its) (tuples' o) := by
  have mem := rows_mem hr rv
  obtain ⟨⟨sg, sg1, sg2⟩, inj⟩ := hc
  refine ltok_of fun x y a b Q E2 ha hb hQ => ?_
  obtain ⟨m1, ax, x', rfl, e1, rfl⟩ := rowKind_key ha
  obtain ⟨m2, ay, y', rfl, e2, rfl⟩ := rowKind_key hb
  obtain ⟨bx, x2, w1, w2, w3⟩ := mem _ m1
  obtain ⟨by', y2, v1, v2, v3⟩ := mem _ m2
  cases w1
  cases v1
  rw [w2] at e1
  rw [v2] at e2
  cases e1
  cases e2
  obtain ⟨i1, r1, ⟨ox, g1, g2, n1, g3⟩, _⟩ := I.tuple (SqT.of w2)
  obtain ⟨i2, r2, ⟨oy, f1, f2, n2, f3⟩, _⟩ := I.tuple (SqT.of v2)
  refine kat_lt (s := s) g1 g3 f1 f3 ?_
  have l1 := r1.length
  have l2 := r2.length
  have sx := sg1 _ w3
  have sy := sg1 _ v3
  have len : ∀ {v : List V} {l : List Nat}, sigs v = some l → v.length = l.length := by
    intro v
    induction v with
    | nil => intro l q; unfold sigs at q; cases q; rfl
    | cons v vs ih =>
      intro l q
      unfold sigs at q
      split at q
      · rename_i a b c1 c2
        cases q
        rw [List.length_cons, List.length_cons, ih c2]
      · cases q
  have z1 := len sx
  have z2 := len sy
  have : decide (i1.toArray.size < i2.toArray.size) = false := decide_eq_false (by rw [List.size_toArray, List.size_toArray]; lia)
  rw [this]
  exact lex_ok 0 sg sx sy (inj _ w3 _ v3) r1 r2 hQ
/-! ### a list of our own that nobody sees -/
structure Own1 (X : Cx) (pins : List (Addr × Obj)) (b : Addr) : Prop where
  lo : X.s₀.heap.objs.size ≤ b
  nl : b ≠ X.env.locals
  nc : ∀ x c, X.env.cells.lookup x = some c → c ≠ b
  np : ∀ p ∈ X.pn ++ pins, p.1 ≠ b
  nf : b ∉ X.fs
theorem own1_of (I : Inv X pins σ H s) {b : Addr} (h : s.heap.objs.size ≤ b) : Own1 X pins b :=
  let f := fresh_of I h
  ⟨f.lo, f.nl, f.nc, f.np, I.nofs h⟩
theorem Own1.more {b : Addr} (f : Own1 X pins b) {more : List (Addr × Obj)} (h : ∀ p ∈ more, p.1 ≠ b) : Own1 X (pins ++ more) b :=
  ⟨f.lo, f.nl, f.nc, fun p hp => by
    rcases List.mem_append.mp hp with z | z
    · exact f.np p (List.mem_append_left _ z)
    · rcases List.mem_append.mp z with z | z
      · exact f.np p (List.mem_append_right _ z)
      · exact h p z, f.nf⟩
theorem pin_sub {pins' : List (Addr × Obj)} (I : Inv X pins σ H s) (h : ∀ p ∈ pins', p ∈ pins) : Inv X pins' σ H s :=
  I.pins_of fun p hp => I.pin p (List.mem_append_right _ (h p hp))
theorem pin_at (I : Inv X pins σ H s) {p : Addr × Obj} (h : p ∈ pins) : s.heap.get? p.1 = some p.2 ∧ H p.1 = none := by
  obtain ⟨h1, h2, _⟩ := I.pin p (List.mem_append_right _ h)
  exact ⟨h1, h2⟩
theorem pin_add {b : Addr} {o : Obj} (I : Inv X pins σ H s) (f : Own1 X pins b) (g : s.heap.get? b = some o) (hn : H b = none) (hd : ∀ v, o.data ≠ .cell v) : Inv X (pins ++ [(b, o)]) σ H s :=
  I.pins_of fun p hp => by
    rcases List.mem_append.mp hp with z | z
    · exact I.pin p (List.mem_append_right _ z)
    · have : p = (b, o) := by simpa using z
      subst this
      exact ⟨g, hn, f.nl, f.nf, hd⟩
/-- it is changed -/
theorem pin_set {b : Addr} {o o' : Obj} {h' : Heap} {tk : Nat} (I : Inv X (pins ++ [(b, o)]) σ H s) (f : Own1 X pins b) (hs : Heap.SameBut b s.heap h') (g : h'.get? b = some o') (hd : ∀ v, o'.data ≠ .cell v) : Inv X (pins ++ [(b, o')]) σ H { s with heap := h', toks := tk } := by
  have hn := (pin_at I (p := (b, o)) (by simp)).2
  have I0 : Inv X pins σ H s := pin_sub I fun p hp => List.mem_append_left _ hp
  have I1 : Inv X pins σ H { s with heap := h', toks := tk } := I0.turned (it := b) (t' := tk) (fun c u nc e => by rw [hs.2 c nc]; exact e) hn f.nl (.inr f.lo) f.nc f.np
  exact pin_add I1 f g hn hd
end
/-! ### the keys -/
def tKeys (sp : Sp) (z : V) : List V → Hp → (List V → Hp → Prop) → Prop
  | [], H, Q => Q [] H
  | x :: r, H, Q => sp [x, z] H (fun k H1 => tKeys sp z r H1 fun ks H2 => Q (k :: ks) H2) E0
section
variable {X : Cx} {σ : L2.St} {A : Around} {E : Value → Shared → Prop} {f c' kS : Addr} {fo oc : Obj} {sp : Sp} {z : V} {pins : List (Addr × Obj)}
def HCall (X : Cx) (σ : L2.St) (A : Around) (f c' : Addr) (fo oc : Obj) (sp : Sp) (z : V) : Prop :=
  ∀ (E : Value → Shared → Prop) (pins : List (Addr × Obj)) (s : Shared) (H : Hp) (y : V) (x : Value) (Q : VK), Inv X pins σ H s → (f, fo) ∈ pins → H c' = some (.frz oc (.own 0)) → RelV y x → sp [y, z] H Q E0 →
    wpAny (model X.prog X.w) A (call (.ref f) [x]) (EP X pins σ fun v H' => Q v H' ∧ Fz H H') E s
theorem key_loop (hcall : HCall X σ A f c' fo oc sp z) (hf : (f, fo) ∈ pins) (ow : Own1 X pins kS) {body : Value → PUnit → Sem (ForInStep PUnit)} {B : Value → Except Value Value → Sem (ForInStep PUnit)}
    (hb : ∀ x r, body x r = (call (.ref f) [x]).attempt >>= B x) (hB : ∀ x k, B x (.ok k) = (Builtin.List.listUpdate (.ref kS) (·.push k) >>= fun _ => pure (.yield ⟨⟩))) :
    ∀ (xs : List V) (us done : List Value) (e : Nat) (H : Hp) (s : Shared) (Q' : List V → Hp → Prop) (P : PUnit → Shared → Prop), Vals xs us → done.length + xs.length ≤ 1000000 → Inv X (pins ++ [(kS, seqObj "list" done.toArray e)]) σ H s → H c' = some (.frz oc (.own 0)) → tKeys sp z xs H Q' →
      (∀ ks kus H' e' s', Inv X (pins ++ [(kS, seqObj "list" (done ++ kus).toArray e')]) σ H' s' → Vals ks kus → ks.length = xs.length → Q' ks H' → P ⟨⟩ s') →
      wpAny (model X.prog X.w) A (forIn us PUnit.unit body) P E s := by
  intro xs
  induction xs with
  | nil =>
    intro us done e H s Q' P r hl I hc ht h
    cases r
    rw [List.forIn_nil]
    exact wpAny_pure (h [] [] H e s (by rw [List.append_nil]; exact I) .nil rfl ht)
  | cons x xs ih =>
    intro us done e H s Q' P r hl I hc ht h
    cases r with
    | @cons _ u _ us r t =>
    rw [List.forIn_cons, hb]
    rw [List.length_cons] at hl
    refine wpAny_bind (wpAny_bind (wpAny_attempt (wpAny_mono (hcall (fun _ _ => False) _ s H x u _ I (List.mem_append_left _ hf) hc r ht) (fun v s1 hq => ?_) fun _ _ hF => hF.elim)))
    obtain ⟨k, H1, I1, rk, q1, fz⟩ := hq
    rw [hB]
    have nk := (pin_at I1 (p := (kS, seqObj "list" done.toArray e)) (by simp)).1
    have s1b := Heap.SameBut.update s1.heap kS (Obj.mapSeq (·.push v))
    obtain ⟨c2, hc2⟩ : ∃ c2, (s1.heap.update kS (Obj.mapSeq (·.push v))).get? kS = some (seqObj "list" (done.toArray.push v) c2) := ⟨_, get?_update_seq nk (·.push v)⟩
    refine wpAny_bind (listUpdate_at nk rfl ?_ (by rw [List.size_toArray, sizeLine_eq]; omega) (Nat.le_trans (Nat.le_of_eq (Array.size_push ..)) (by rw [List.size_toArray, sizeLine_eq]; omega)))
    refine wpAny_pure ?_
    dsimp only
    have I2 : Inv X (pins ++ [(kS, seqObj "list" (done ++ [v]).toArray c2)]) σ H1 { s1 with heap := s1.heap.update kS (Obj.mapSeq (·.push v)) } :=
      pin_set (tk := s1.toks) I1 ow s1b (o' := seqObj "list" (done ++ [v]).toArray c2) (by rw [hc2]; simp) (fun w q => by cases q)
    exact ih us (done ++ [v]) c2 H1 _ _ P t (by rw [List.length_append, List.length_singleton]; omega) I2 (fz _ _ _ hc) q1 fun ks kus H' e' s' J rv hl' q => h (k :: ks) (v :: kus) H' e' s' (by rw [List.append_assoc] at J; exact J) (.cons rk rv) (by rw [List.length_cons, List.length_cons, hl']) q
end
end DL

set_option maxHeartbeats 4000000
set_option linter.all false
set_option maxRecDepth 100000
namespace DL
open PySem PySem.Spec PyProof.Rows L2 PySem.W
section
variable {X : Cx} {σ : L2.St} {A : Around} {E : Value → Shared → Prop} {f c' kS a : Addr} {fo oc : Obj} {sp : Sp} {z : V} {pins : List (Addr × Obj)} {H : Hp} {s : Shared} {P : PySem.Fin → Shared → Prop}
theorem keys_pw {kus : List Value} {ks : List V} {ys : List (List V)} (hr : RowsT H ks ys) (rv : Vals ks kus) : ∀ {zp : List (V × V)} {out : List (Value × Value)}, Paired R2P zp out → (∀ p ∈ out, p.1 ∈ kus) →
    (out.Pairwise fun x y => (rowKind H kus).kle (TS.kx (rowKind H kus) x) (TS.kx (rowKind H kus) y)) → zp.Pairwise fun x y => lexK (vkey H y.1) (vkey H x.1) = false := by
  intro zp out rr
  have mem := rows_mem hr rv
  have one : ∀ {p : V × V} {q : Value × Value}, RelV p.1 q.1 → q.1 ∈ kus → TS.kx (rowKind H kus) q = vkey H p.1 := fun {p q} h1 h2 => by
    obtain ⟨b, y, e1, e2, e3⟩ := mem _ h2
    rw [e1] at h1 h2
    have ez : p.1 = .ref b := RelV.inj h1 (show RelV (.ref b) (Value.ref b) from rfl)
    have e5 : vkey H p.1 = keyV y := by
      rw [ez]
      show (match H b with
        | some (.tup y) => keyV y
        | _ => []) = _
      rw [e2]
    unfold TS.kx
    rw [e1, rowKind_of h2 e2, e5]
    rfl
  induction rr with
  | nil => intro _ _; exact List.Pairwise.nil
  | cons h1 t ih =>
    intro hm hs
    obtain ⟨s1, s2⟩ := List.pairwise_cons.mp hs
    refine List.pairwise_cons.mpr ⟨fun q hq => ?_, ih (fun u hu => hm u (by simp [hu])) s2⟩
    obtain ⟨j, hj, ej⟩ := List.mem_iff_getElem.mp hq
    obtain ⟨u, eu, ru⟩ := paired_get t (List.getElem?_eq_getElem hj)
    have hu : u ∈ _ := List.mem_of_getElem? eu
    have := s1 u hu
    rw [one h1.1 (hm _ (by simp)), one ru.1 (hm u (by simp [hu])), ej] at this
    exact this
theorem sort_end {ks : List V} {kus vs : List Value} {xs : List V} {ys : List (List V)} {e e1 : Nat} (I : Inv X ((pins ++ [(a, seqObj "list" #[] e1)]) ++ [(kS, seqObj "list" kus.toArray e)]) σ H s) (oa : Own1 X pins a) (ok : Own1 X (pins ++ [(a, seqObj "list" #[] e1)]) kS)
    (rk : Vals ks kus) (rv : Vals xs vs) (hl : ks.length = xs.length) (hz : xs.length ≤ 1000000) (hr : RowsT H ks ys) (hc : CndV ys)
    (h : ∀ (h' : Heap) (tk : Tok) (zp : List (V × V)) (out : List Value) (c : Nat), Inv X (pins ++ [(a, seqObj "list" out.toArray c)]) σ H { s with heap := h', toks := tk } → zp.Perm (ks.zip xs) → (zp.Pairwise fun x y => lexK (vkey H y.1) (vkey H x.1) = false) → Vals (zp.map (·.2)) out → P (.done (.ret .none)) { s with heap := h', toks := tk }) :
    wpAny (model X.prog X.w) A (ksk_end a false vs.toArray e1 (.ref kS) kus.toArray) P E s := by
  have lk := rk.length
  have lv := rv.length
  have hzs : (kus.toArray.zip vs.toArray).size = xs.length := by rw [Array.size_zip, List.size_toArray, List.size_toArray]; omega
  have tl : (kus.toArray.zip vs.toArray).toList = kus.zip vs := by simp
  -- behind the sorting
  have fin : ∀ st : SortSt, (arrOf st).Perm (kus.toArray.zip vs.toArray) → failedOf st = none → ((arrOf st).toList.Pairwise fun x y => (rowKind H kus).kle (TS.kx (rowKind H kus) x) (TS.kx (rowKind H kus) y)) → wpAny (model X.prog X.w) A (ksk_tail a false e1 (.ref kS) st) P E s := by
    intro st hp hfl hs
    have nk := (pin_at I (p := (kS, seqObj "list" kus.toArray e)) (by simp)).1
    have hka : kS ≠ a := fun z => ok.np (a, seqObj "list" #[] e1) (by simp) z.symm
    have na := (pin_at I (p := (a, seqObj "list" #[] e1)) (by simp)).1
    have pl : (arrOf st).toList.Perm (kus.zip vs) := by rw [← tl]; exact Array.perm_iff_toList_perm.mp hp
    have hsz2 : (arrOf st).size = xs.length := by rw [hp.size_eq, hzs]
    have s1 := Heap.SameBut.update s.heap kS (Obj.mapSeq fun _ => (#[] : Array Value))
    have na1 : (s.heap.update kS (Obj.mapSeq fun _ => (#[] : Array Value))).get? a = some (seqObj "list" #[] e1) := (s1.2 a hka.symm).trans na
    obtain ⟨c1, hc1⟩ : ∃ c1, (s.heap.update kS (Obj.mapSeq fun _ => (#[] : Array Value))).get? kS = some (seqObj "list" #[] c1) := ⟨_, get?_update_seq nk fun _ => #[]⟩
    have I1 : Inv X ((pins ++ [(a, seqObj "list" #[] e1)]) ++ [(kS, seqObj "list" #[] c1)]) σ H { s with heap := s.heap.update kS (Obj.mapSeq fun _ => (#[] : Array Value)) } := pin_set (tk := s.toks) I ok s1 hc1 (fun w q => by cases q)
    have I2 : Inv X (pins ++ [(a, seqObj "list" #[] e1)]) σ H { s with heap := s.heap.update kS (Obj.mapSeq fun _ => (#[] : Array Value)) } := pin_sub I1 fun p hp => List.mem_append_left _ hp
    have s2 := Heap.SameBut.update (s.heap.update kS (Obj.mapSeq fun _ => (#[] : Array Value))) a (Obj.mapSeq fun _ => (arrOf st).map (·.2))
    obtain ⟨c2, hc2⟩ : ∃ c2, ((s.heap.update kS (Obj.mapSeq fun _ => (#[] : Array Value))).update a (Obj.mapSeq fun _ => (arrOf st).map (·.2))).get? a = some (seqObj "list" ((arrOf st).map (·.2)) c2) := ⟨_, get?_update_seq na1 fun _ => (arrOf st).map (·.2)⟩
    have eo : (arrOf st).map (·.2) = ((arrOf st).toList.map (·.2)).toArray := by apply Array.toList_inj.mp; simp
    have I3 := pin_set (tk := s.toks) I2 oa s2 (o' := seqObj "list" ((arrOf st).toList.map (·.2)).toArray c2) (by rw [← eo]; exact hc2) (fun w q => by cases q)
    obtain ⟨zp, p1, p2⟩ := perm_paired pl (zip_paired rk rv)
    unfold ksk_tail
    try dsimp only
    refine wpAny_bind (listUpdate_at nk rfl ?_ (by rw [List.size_toArray, sizeLine_eq]; omega) (Nat.zero_le _))
    refine wpAny_bind (wpAny_letGo ?_)
    refine wpAny_bind (seqEpoch_at na1 rfl ?_)
    simp only [Bool.false_eq_true, if_false]
    refine wpAny_bind (listUpdate_at na1 rfl ?_ (Nat.zero_le _) (by rw [Array.size_map, hsz2, sizeLine_eq]; omega))
    rw [hfl]
    simp only [bne_self_eq_false, Bool.false_eq_true, if_false]
    exact wpAny_pure (h _ s.toks zp _ c2 I3 p1 (keys_pw hr rk p2 (fun q hq => (List.of_mem_zip (pl.mem_iff.mp hq)).1) hs) (snd_vals p2))
  unfold ksk_end
  try dsimp only
  simp only [Bool.false_eq_true, if_false]
  by_cases h2 : vs.toArray.size < 2
  · rw [if_pos h2, if_pos h2]
    refine wpAny_bind (wpAny_pure ?_)
    rw [StateT.run_pure]
    refine wpAny_bind (wpAny_pure ?_)
    try dsimp only
    refine fin (SortSt.mk' general' (kus.toArray.zip vs.toArray) #[] 7 none) (Array.Perm.refl _) rfl ?_
    show (kus.toArray.zip vs.toArray).toList.Pairwise _
    rw [tl]
    have : (kus.zip vs).length < 2 := by rw [List.length_zip]; rw [List.size_toArray] at h2; omega
    match kus.zip vs, this with
    | [], _ => exact List.Pairwise.nil
    | [_], _ => exact List.pairwise_singleton _ _
  · rw [if_neg h2, if_neg h2]
    rw [List.size_toArray] at h2
    obtain ⟨o, kind⟩ := rows_kind I hr rk hc
    refine wpAny_bind (kind (by omega) _ _ _ ?_)
    have mem := rows_mem hr rk
    have h0 : KeysOf (rowKind H kus) (kus.toArray.zip vs.toArray) := fun p hp => by
      have hp : p ∈ kus.zip vs := by rw [← tl]; simpa using hp
      have hm := (List.of_mem_zip hp).1
      obtain ⟨b, y, e1, e2, e3⟩ := mem _ hm
      rw [e1] at hm ⊢
      exact ⟨_, rowKind_of hm e2⟩
    refine wpAny_bind (wpAny_mono (TS.wp_runs (a₀ := kus.toArray.zip vs.toArray) (st := SortSt.mk' (tuples' o) (kus.toArray.zip vs.toArray) #[] 7 none) (Q := fun _ st' => TS.SB (tuples' o) (kus.toArray.zip vs.toArray) st' ∧ TS.SrtR (rowKind H kus) (arrOf st') 0 (kus.toArray.zip vs.toArray).size) (rows_lt I hr rk hc) h0 ⟨Array.Perm.refl _, rfl, rfl⟩ rfl (by rw [hzs]; omega) fun st' b1 b2 => ⟨b1, b2⟩) ?_ fun _ _ e => e)
    rintro ⟨⟨⟩, st'⟩ s' ⟨rfl, b1, b2⟩
    try dsimp only
    rw [← b1.size] at b2
    exact fin st' b1.perm b1.failed (TS.sl_of_srt b2)
theorem sort_tree {vs : List Value} {xs : List V} {n : Nat} {Q' : List V → Hp → Prop} (I : Inv X (pins ++ [(a, seqObj "list" vs.toArray n)]) σ H s) (oa : Own1 X pins a) (hf : (f, fo) ∈ pins) (hc : H c' = some (.frz oc (.own 0))) (rv : Vals xs vs) (hz : xs.length ≤ 1000000)
    (hcall : HCall X σ A f c' fo oc sp z) (ht : tKeys sp z xs H Q') (hQ' : ∀ ks H', Q' ks H' → ∃ ys, RowsT H' ks ys ∧ CndV ys)
    (h : ∀ (ks : List V) (H' : Hp) (s' : Shared) (zp : List (V × V)) (out : List Value) (c : Nat), Q' ks H' → ks.length = xs.length → Inv X (pins ++ [(a, seqObj "list" out.toArray c)]) σ H' s' → zp.Perm (ks.zip xs) → (zp.Pairwise fun x y => lexK (vkey H' y.1) (vkey H' x.1) = false) → Vals (zp.map (·.2)) out → P (.done (.ret .none)) s') :
    wpAny (model X.prog X.w) A (ksk_tree a (.ref f) false) P E s := by
  have lv := rv.length
  have ho := (pin_at I (p := (a, seqObj "list" vs.toArray n)) (by simp)).1
  have s1 := Heap.SameBut.update s.heap a (Obj.mapSeq fun _ => (#[] : Array Value))
  obtain ⟨e1, ho1⟩ : ∃ e1, (s.heap.update a (Obj.mapSeq fun _ => (#[] : Array Value))).get? a = some (seqObj "list" #[] e1) := ⟨_, get?_update_seq ho fun _ => #[]⟩
  have I1 : Inv X (pins ++ [(a, seqObj "list" #[] e1)]) σ H { s with heap := s.heap.update a (Obj.mapSeq fun _ => (#[] : Array Value)) } := pin_set (tk := s.toks) I oa s1 ho1 (fun w q => by cases q)
  have I2 : Inv X (pins ++ [(a, seqObj "list" #[] e1)]) σ H { s with heap := (s.heap.update a (Obj.mapSeq fun _ => (#[] : Array Value))).push (seqObj "tuple" vs.toArray 0) } := I1.kept (t' := s.toks) fun b u e => Heap.get?_push_of_some _ e
  have ok := own1_of I2 (Nat.le_refl _)
  have I3 : Inv X (pins ++ [(a, seqObj "list" #[] e1)]) σ H { s with heap := ((s.heap.update a (Obj.mapSeq fun _ => (#[] : Array Value))).push (seqObj "tuple" vs.toArray 0)).push (seqObj "list" #[] 0) } := I2.kept (t' := s.toks) fun b u e => Heap.get?_push_of_some _ e
  have I4 := pin_add I3 ok (o := seqObj "list" #[] 0) (Heap.get?_push_size _ rfl) (I2.hok.fresh (Nat.le_refl _)) (fun w q => by cases q)
  unfold ksk_tree
  refine wpAny_bind (listItems_at ho rfl ?_)
  refine wpAny_bind (listUpdate_at ho rfl ?_ (by rw [List.size_toArray, sizeLine_eq]; omega) (Nat.zero_le _))
  refine wpAny_bind (seqEpoch_at ho1 rfl ?_)
  refine wpAny_bind (wpAny_newTuple ?_ (by show vs.length ≤ _; rw [sizeLine_eq]; omega))
  refine wpAny_bind (wpAny_newList ?_ (Nat.zero_le _))
  refine wpAny_holding ?_
  unfold ksk_rest
  refine wpAny_bind (wpAny_rule ?_)
  first
    | rw [List.forIn_toArray]
    | (rw [← Array.forIn_toList]; simp only [List.toList_toArray])
  refine wpAny_bind (key_loop hcall (List.mem_append_left _ hf) ok (fun _ _ => rfl) (fun _ _ => rfl) xs vs [] 0 H _ Q' _ rv (by simp; omega) I4 hc ht fun ks kus H' e' s' J rk hl q => ?_)
  have nk := (pin_at J (List.mem_append_right _ (List.mem_singleton.mpr rfl))).1
  obtain ⟨ys, hr, hcn⟩ := hQ' ks H' q
  refine wpAny_bind (listItems_at nk rfl ?_)
  refine sort_end (kus := kus) J oa ok rk rv hl hz hr hcn fun h' tk zp out c J' p1 p2 p3 => h ks H' _ zp out c q hl J' p1 p2 p3
/-- sorted(l, key = f) -/
theorem sorted_key {vs : List Value} {xs : List V} {l : Addr} {Q : VK} {Q' : List V → Hp → Prop} (I : Inv X pins σ H s) (hl : s.heap.IsList l vs.toArray) (hf : (f, fo) ∈ pins) (hc : H c' = some (.frz oc (.own 0))) (rv : Vals xs vs) (hz : xs.length ≤ 1000000)
    (hcall : HCall X σ A.in1.in1 f c' fo oc sp z) (ht : tKeys sp z xs H Q') (hQ' : ∀ ks H', Q' ks H' → ∃ ys, RowsT H' ks ys ∧ CndV ys)
    (h : ∀ (ks : List V) (H' : Hp) (zp : List (V × V)) (L : Addr), Q' ks H' → ks.length = xs.length → H' L = none → zp.Perm (ks.zip xs) → (zp.Pairwise fun x y => lexK (vkey H' y.1) (vkey H' x.1) = false) → Q (.ref L) (upd H' L (.lst (zp.map (·.2))))) :
    wpAny (model X.prog X.w) A (call (.builtin "sorted") [.ref l] [(Str.ofString "key", .ref f)]) (EP X pins σ Q) E s := by
  have lv := rv.length
  refine call_function_entry_kw kind_sorted plain_sorted entry_sorted (ksk_s1 _ _) ?_
  unfold Builtin.«sorted»
  refine wpAny_bind (m := checkCount "sorted" 1 1 _) (wpAny_pure ?_)
  refine wpAny_bind (collect_list hl ?_ (by rw [sizeLine_eq]; omega))
  refine wpAny_bind (wpAny_newList ?_ (by rw [sizeLine_eq]; omega))
  have hsz : ((s.heap.push (seqObj "list" #[] 0)).update s.heap.objs.size (Obj.mapSeq (· ++ vs.toArray))).objs.size = s.heap.objs.size + 1 := by
    rw [Heap.size_update, size_push']
  have hoL : (((s.heap.push (seqObj "list" #[] 0)).update s.heap.objs.size (Obj.mapSeq (· ++ vs.toArray))).push (seqObj "list" vs.toArray 0)).get? (s.heap.objs.size + 1) = some (seqObj "list" vs.toArray 0) := by
    rw [← hsz]; exact Heap.get?_push_size _ rfl
  have keep : ∀ b o, s.heap.get? b = some o → (((s.heap.push (seqObj "list" #[] 0)).update s.heap.objs.size (Obj.mapSeq (· ++ vs.toArray))).push (seqObj "list" vs.toArray 0)).get? b = some o := fun b o q => by
    have hlt : b < s.heap.objs.size := Heap.lt_size q
    rw [Heap.get?_push_ne _ _ _ (by rw [hsz]; exact Nat.ne_of_lt (Nat.lt_succ_of_lt hlt)), Heap.get?_update_ne _ _ _ _ (Nat.ne_of_lt hlt), Heap.get?_push_ne _ _ _ (Nat.ne_of_lt hlt)]
    exact q
  show wpAny _ _ _ _ _ { s with heap := ((s.heap.push (seqObj "list" #[] 0)).update s.heap.objs.size (Obj.mapSeq (· ++ vs.toArray))).push (seqObj "list" vs.toArray 0) }
  rw [hsz]
  have I1 : Inv X pins σ H { s with heap := ((s.heap.push (seqObj "list" #[] 0)).update s.heap.objs.size (Obj.mapSeq (· ++ vs.toArray))).push (seqObj "list" vs.toArray 0) } := I.kept (t' := s.toks) keep
  have ow := own1_of I (b := s.heap.objs.size + 1) (Nat.le_succ _)
  have I2 := pin_add I1 ow hoL (I.hok.fresh (Nat.le_succ _)) (fun w q => by cases q)
  refine wpAny_bind (wpAny_holding (wpAny_call_entry_kw slot_list_sort ⟨_, hoL, rfl⟩ entry_list_sort ?body (ksk_l1 _ _)))
  case body =>
    show wpAny (model X.prog X.w) A.in1.in1 (Builtin.«list.sort» ⟨[.ref (s.heap.objs.size + 1)], [(Str.ofString "key", .ref f)]⟩) _ _ _
    rw [ksk_t1]
    refine sort_tree (Q' := Q') I2 ow hf hc rv hz hcall ht hQ' fun ks H' s' zp out c q hlk J p1 p2 p3 => ⟨_, rfl, ?_⟩
    refine wpAny_pure ⟨_, rfl, ?_⟩
    have pa := pin_at J (p := (s.heap.objs.size + 1, seqObj "list" out.toArray c)) (by simp)
    have J0 : Inv X pins σ H' s' := pin_sub J fun p hp => List.mem_append_left _ hp
    refine ⟨.ref (s.heap.objs.size + 1), _, inv_track J0 pa.2 ⟨ow.lo, ow.nl, ow.nc, ow.np⟩ (o := .lst (zp.map (·.2))) ⟨?_, out, c, p3, pa.1⟩, rfl, h ks H' zp _ q hlk pa.2 p1 p2⟩
    have := p1.length_eq
    rw [List.length_zip] at this
    rw [List.length_map, sizeLine_eq]
    omega
end
end DL

set_option maxHeartbeats 4000000
set_option linter.all false
set_option maxRecDepth 100000
namespace DL
open PySem PySem.Spec PyProof.Rows L2 PySem.W
/-! ### sorted(list(d), key=lambda one: f(one, seen)) -/
/-- the scope of a lambda of one parameter that calls one def and sees one name of its own def's -/
structure LamOk (sc : Scope) (one seen fn : Str) : Prop where
  s : LScope sc one seen
  glo : sc.names.lookup fn = some .globalImplicit
def tSortK (i j : Nat) (sp : Sp) : TE := fun σ H Q => ∃ p kvs z, σ[i]? = some (some (.ref p)) ∧ H p = some (.dT kvs) ∧ kvs.length ≤ 1000000 ∧ σ[j]? = some (some z) ∧
  ∀ (c' : Addr) (oc : Obj) (H1 : Hp) (xs : List V), (H1 = H ∨ (H c' = none ∧ H1 = upd H c' (.frz oc (.own 0)))) → xs.length = kvs.length → (∀ (n : Nat) k v, kvs[n]? = some (k, v) → ∃ a, xs[n]? = some (.ref a) ∧ H a = some (.tup (k.map kV))) →
    tKeys sp z xs H1 fun ks H2 => (∃ ys, RowsT H2 ks ys ∧ CndV ys) ∧ ∀ L (zp : List (V × V)), ks.length = xs.length → H2 L = none → zp.Perm (ks.zip xs) → (zp.Pairwise fun x y => lexK (vkey H2 y.1) (vkey H2 x.1) = false) → Q (.ref L) (upd H2 L (.lst (zp.map (·.2))))
section
variable {X : Cx} {E : XK}
theorem pe_sortK (i j : Nat) {x seen one fn tq : Str} {tl tc : Value} {p p2 p3 p4 p5 p6 p7 p8 pos lpos kpos : Pos} {params : Arguments} {lscope : Scope} {cT P cellA : Addr} {k : Nat} {fg : Addr} {fdg : FuncData} {ps : List Str} {sp : Sp}
    (hc : X.calm = true) (hr : Room (k + 3) X.A) (G : FnOk X.prog X.w X.K X.mg X.base CX0 k fg fdg ps sp) (hmf : X.mg fn = some (.ref fg)) (hkf : keepIn X.K (.ref fg) = true) (hbf : Binds X.K fdg ps [])
    (hg : Gl X "sorted") (hm : X.mg "sorted" = none) (hv : bootBuiltins "sorted" = some (.builtin "sorted")) (hg2 : Gl X "list") (hm2 : X.mg "list" = none) (hv2 : bootBuiltins "list" = some (.type "list"))
    (hT : X.H₀ P = some (.tbl tl tc tq)) (hC : codeHdIn X.K cT P = true) (hB : BltAt X.mg X.base) (L : LamOk lscope one seen fn) (hcell : X.env.cells.lookup seen = some cellA) (hcl : closureFor lscope X.env = pure [(seen, cellA)])
    (hcode : X.env.code = .ref cT) (hl : tl = rawInt lpos.line) (hcc : tc = rawInt lpos.col) (hq : X.env.qual ++ "<lambda>" = tq) (hdef : defaultsOf params X.env = ([], []))
    (hbind : ∀ (pm ctv u : Value) (c' : Addr), bindArgs (kla_fn "<lambda>" tq params (.Call (.Name fn p5) [.Name one p6, .Name seen p7] [] p8) lscope [(seen, cellA)] pm (.ref c') ctv) ⟨[u], []⟩ = pure [(one, u)])
    (hi : X.N[i]? = some x) (hvis : Vis X.env.scope x) (hj : X.N[j]? = some seen) (hkc : X.env.kindOf seen = some .cell)
    (hd : (x == ("__debug__" : Str)) = false) (hcd : (x == ("__classdict__" : Str)) = false) (hdf : (fn == ("__debug__" : Str)) = false) (hd1 : (one == ("__debug__" : Str)) = false) (hcd1 : (one == ("__classdict__" : Str)) = false) (hd2 : (seen == ("__debug__" : Str)) = false) (hcd2 : (seen == ("__classdict__" : Str)) = false) :
    PE X (.Call (.Name "sorted" p) [.Call (.Name "list" p2) [.Name x p3] [] p4] [⟨some "key", .Lambda params (.Call (.Name fn p5) [.Name one p6, .Name seen p7] [] p8) lscope lpos, kpos⟩] pos) (tSortK i j sp) := by
  intro pins s σ H Q I h
  subst hl hcc
  obtain ⟨d, kvs, z, z1, z2, z3, z4, h⟩ := h
  refine wpAny_Call_Name_kw (ld_blt I hg hm hv ?_ (by decide) (by decide))
  refine callWith_kw ?_
  refine Calls.spliced_cons ?_
  refine wpAny_Call_Name_kw (ld_blt I hg2 hm2 hv2 ?_ (by decide) (by decide))
  refine PyProof.Rows.callWith_type1 (thn ((pa_cons (pe_var hi hvis hd hcd) pa_nil) p4 pins s σ H (fun vs H1 => vs = [.ref d] ∧ H1 = H) I ⟨_, z1, rfl, rfl⟩) fun us s1 ⟨vs, H1, I1, r1, e1, e2⟩ => ?_)
  subst e1 e2
  obtain ⟨u, rfl, rx⟩ := vals1 r1
  cases rx
  obtain ⟨n1, lo, xs', pr, od, es, ep, g1, g2, g3, g4, g5⟩ := I1.hok d _ z2
  have hh : X.A.handled = none := I1.ok.hd hc
  have hes : es.size = kvs.length := by
    rw [← Array.length_toList, g4, List.length_map]
    exact (Paired.length pr).symm
  refine list_raw lo hh ⟨od, g1, g2, g3⟩ (by rw [hes]; exact n1) fun h' tk c0 keep hat => ?_
  refine Calls.spliced_nil ?_
  have I2 : Inv X pins σ H1 { s1 with heap := h', toks := tk } := I1.kept keep
  have ow0 := own1_of I1 (Nat.le_refl _)
  have I3 := pin_add I2 ow0 hat (I1.hok.fresh (Nat.le_refl _)) (fun w q => by cases q)
  -- the keys
  have hkeys : (es.map (·.key)).toList = xs'.map fun q => Value.ref q.2.1 := by
    rw [Array.toList_map, g4, List.map_map]
    rfl
  refine kws_cons ?_
  refine lam_made I3 (I3.base.tbls _ _ _ _ hT) hcode hC hB hq hcl hdef fun f c' oc vs t ctv H2 h2 tk2 hH2 hc' od' ov I4 hsz hfo hfn hflt => ?_
  refine kws_nil ?_
  have owf := own1_of I3 hsz
  have I5 := pin_add I4 owf hfo hfn (fun w q => by cases q)
  have nl := (pin_at I5 (p := (s1.heap.objs.size, { cls := .type "list", dict := none, data := .seq (es.map (·.key)) c0, slots := #[] })) (by simp)).1
  have lst : ({ s1 with heap := h2, toks := tk2 } : Shared).heap.IsList s1.heap.objs.size ((xs'.map fun q => Value.ref q.2.1).toArray) := ⟨_, nl, rfl, c0, by rw [← hkeys, Array.toArray_toList]⟩
  have rv : Vals (xs'.map fun q => V.ref q.2.1) (xs'.map fun q => Value.ref q.2.1) := by
    generalize xs' = l
    induction l with
    | nil => exact .nil
    | cons q r ih => exact .cons rfl ih
  have hcall : HCall X σ X.A.in1.in1 f c' (kla_obj "<lambda>" tq params (.Call (.Name fn p5) [.Name one p6, .Name seen p7] [] p8) lscope [(seen, cellA)] ((X.mg "__name__").getD .none) c' ctv) oc sp z := by
    intro E' pins' s' H' y u Q' I' hf' hc'' ry hsp
    refine lam_call (tb := tCall sp [] E0 (tCons (tVar 0) (tCons (tVar 1) tNil))) I' I'.ok.frames (show X.A.in1.in1.handled = none from hh) hr.in1.in1.depth L.s hcell hj z4 hkc ry (pin_at I' hf').1 hc'' od' ov (fun x => hbind _ _ _ _) (fun s0 H0 => ?_) ⟨y, rfl, z, rfl, hsp⟩
    exact pe_call G (hr.in1.in1.deeper _) L.glo hmf hkf hbf .nil pass0 (pa_cons (pe_var (i := 0) rfl (.inl L.s.par) hd1 hcd1) (pa_cons (pe_var (i := 1) rfl (.inr (.inr L.s.see)) hd2 hcd2) pa_nil)) hdf
  have hk2 := h c' oc H2 (xs'.map fun q => V.ref q.2.1) hH2 (by rw [List.length_map]; exact (Paired.length pr).symm) fun n k v e => ?_
  · refine wpAny_mono (sorted_key I5 lst (by simp) hc' rv (by rw [List.length_map, ← Paired.length pr]; exact z3) hcall hk2 (fun ks H' q => q.1) fun ks H' zp L q hlk hL p1 p2 => q.2 L zp hlk hL p1 p2) (fun v s' hq => ?_) fun _ _ e => e
    obtain ⟨v', H', J, rv', q⟩ := hq
    exact ⟨v', H', pin_sub J fun p hp => by simp [hp], rv', q⟩
  · obtain ⟨q, e1, e2, e3, e4⟩ := paired_get pr e
    exact ⟨q.2.1, by rw [List.getElem?_map, e1]; rfl, e3⟩
end
/-! ### the keys, as data -/
def tupHf (Hf H : Hp) : Hp := fun a => match Hf a, H a with
  | some o, _ => some o
  | none, some (.tup xs) => some (.tup xs)
  | _, _ => none
theorem tupHf_gr {Hf H : Hp} (e : Same Hf H) : Gr Hf H (tupHf Hf H) H where
  fz := fun a o q => by unfold tupHf; rw [q]
  sub := fun a o q => by
    unfold tupHf at q
    cases q1 : Hf a with
    | some o' =>
      rw [q1] at q
      cases q
      exact e a _ q1
    | none =>
      rw [q1] at q
      cases q2 : H a with
      | none => rw [q2] at q; cases q
      | some o' =>
        rw [q2] at q
        cases o' with
        | tup xs => cases q; rfl
        | _ => cases q
  all := Same.refl _
  ban := fun a h q => by
    obtain ⟨o, q1, n⟩ := h
    unfold tupHf
    rw [q, q1]
    cases o with
    | tup xs => exact absurd rfl (n xs)
    | _ => rfl
theorem tupHf_at {Hf H : Hp} (e : Same Hf H) {a : Addr} {xs : List V} (h : H a = some (.tup xs)) : tupHf Hf H a = some (.tup xs) := by
  unfold tupHf
  cases q : Hf a with
  | none => rw [h]
  | some o =>
    have := e a o q
    rw [h] at this
    cases this
    rfl
theorem reps_keys {K : Frag} {H : Hp} : ∀ k : List Key, Reps K H (k.map keyDd) (k.map kV)
  | [] => Reps.nil
  | .inl i :: r => Reps.cons (rep_int.mpr rfl) (reps_keys r)
  | .inr x :: r => Reps.cons (rep_str.mpr rfl) (reps_keys r)
theorem reps_at {K : Frag} {H : Hp} : ∀ {ds : List D} {xs : List V}, ds.length = xs.length → (∀ (n : Nat) d, ds[n]? = some d → ∃ v, xs[n]? = some v ∧ Rep K H d v) → Reps K H ds xs
  | [], [], _, _ => Reps.nil
  | [], _ :: _, h, _ => by simp at h
  | _ :: _, [], h, _ => by simp at h
  | d :: ds, x :: xs, h, hr => by
    obtain ⟨v, e1, e2⟩ := hr 0 d rfl
    simp at e1
    subst e1
    exact Reps.cons e2 (reps_at (by simpa using h) fun n d' e => by simpa using hr (n + 1) d' (by simpa using e))
theorem keys_data {K : Frag} {F : List D → M S} {z : D} {zv : V} : ∀ {ds ks : List D} {xs : List V} {Hf H : Hp} {Q' : List V → Hp → Prop}, Same Hf H → Reps K Hf ds xs → Rep K Hf z zv → mapKs (keyOfF F z) ds = .ok ks →
    (∀ vs Hf' H', Gr Hf H Hf' H' → Reps K Hf' ks vs → Q' vs H') → tKeys (spN K F) zv xs H Q'
  | [], ks, xs, Hf, H, Q', e, r, rz, hm, h => by
    rw [reps_nil.mp r]
    cases hm
    exact h [] Hf H (Gr.refl e) Reps.nil
  | d :: ds, ks, xs, Hf, H, Q', e, r, rz, hm, h => by
    obtain ⟨x, t, rfl, h1, h2⟩ := reps_cons.mp r
    unfold mapKs at hm
    cases q : keyOfF F z d with
    | ok k =>
      rw [q, M.bind_ok] at hm
      cases q2 : mapKs (keyOfF F z) ds with
      | ok ks' =>
        rw [q2, M.bind_ok] at hm
        cases hm
        have hF : F [d, z] = .ok (.im k) := by
          unfold keyOfF at q
          split at q
          · rename_i d' e'
            cases q
            exact e'
          · cases q
        refine ⟨Hf, [d, z], _, e, Reps.cons h1 (Reps.cons rz Reps.nil), hF, fun v Hf1 H1 g1 rv => ?_⟩
        exact keys_data g1.sub (h2.mono g1.fz) (rz.mono g1.fz) q2 fun vs Hf' H' g rs => h (v :: vs) Hf' H' (g1.trans g) (Reps.cons (Rep.mono g.fz rv) rs)
      | ex x => rw [q2] at hm; cases hm
      | bad => rw [q2] at hm; cases hm
    | ex x => rw [q] at hm; cases hm
    | bad => rw [q] at hm; cases hm
theorem insP_perm (x : D × D) : ∀ l : List (D × D), (insP x l).Perm (x :: l)
  | [] => List.Perm.refl _
  | y :: r => by
    unfold insP
    split
    · exact ((insP_perm x r).cons y).trans (List.Perm.swap x y r)
    · exact List.Perm.refl _
theorem sortPs_perm : ∀ l : List (D × D), (sortPs l).Perm l
  | [] => List.Perm.refl _
  | x :: r => (insP_perm x _).trans ((sortPs_perm r).cons x)
theorem insP_sorted (x : D × D) : ∀ l : List (D × D), (l.Pairwise fun x y => leK (keyRow x.1) (keyRow y.1)) → (insP x l).Pairwise fun x y => leK (keyRow x.1) (keyRow y.1)
  | [], _ => List.pairwise_singleton _ _
  | y :: r, h => by
    obtain ⟨h1, h2⟩ := List.pairwise_cons.mp h
    unfold insP
    split
    · rename_i hxy
      refine List.pairwise_cons.mpr ⟨fun z hz => ?_, insP_sorted x r h2⟩
      rcases List.mem_cons.mp ((insP_perm x r).mem_iff.mp hz) with rfl | hz
      · exact leK_of hxy
      · exact h1 z hz
    · rename_i hxy
      have hxy : leK (keyRow x.1) (keyRow y.1) := by simpa using hxy
      refine List.pairwise_cons.mpr ⟨fun z hz => ?_, h⟩
      rcases List.mem_cons.mp hz with rfl | hz
      · exact hxy
      · exact leK_trans hxy (h1 z hz)
theorem sortPs_sorted : ∀ l : List (D × D), (sortPs l).Pairwise fun x y => leK (keyRow x.1) (keyRow y.1)
  | [] => List.Pairwise.nil
  | x :: r => insP_sorted x _ (sortPs_sorted r)
/-- pairs of data and pairs of values, both in the order of their keys -/
theorem reps_zip {K : Frag} {Hf H : Hp} (e : Same Hf H) {l : List Nat} : ∀ {ks ds : List D} {vs xs : List V}, Reps K Hf ks vs → Reps K Hf ds xs → ks.length = ds.length → (∀ d ∈ ks, rowSig d = some l) →
    (vs.zip xs).map (fun p => vkey H p.1) = (ks.zip ds).map (fun p => keyRow p.1) ∧ ∀ p ∈ vs.zip xs, ∃ q ∈ ks.zip ds, vkey H p.1 = keyRow q.1 ∧ Rep K Hf q.2 p.2
  | [], ds, vs, xs, r1, r2, hl, hs => by
    rw [reps_nil.mp r1]
    exact ⟨by simp, fun p hp => by simp at hp⟩
  | k :: ks, [], vs, xs, r1, r2, hl, hs => by simp at hl
  | k :: ks, d :: ds, vs, xs, r1, r2, hl, hs => by
    obtain ⟨v, t, rfl, h1, h2⟩ := reps_cons.mp r1
    obtain ⟨x, u, rfl, h3, h4⟩ := reps_cons.mp r2
    obtain ⟨i1, i2⟩ := reps_zip e h2 h4 (by simpa using hl) fun d hd => hs d (List.mem_cons_of_mem _ hd)
    have hk := vkey_is e (hs k List.mem_cons_self) h1
    refine ⟨by rw [List.zip_cons_cons, List.zip_cons_cons, List.map_cons, List.map_cons, hk, i1], fun p hp => ?_⟩
    rw [List.zip_cons_cons] at hp
    rcases List.mem_cons.mp hp with rfl | hp
    · exact ⟨(k, d), by rw [List.zip_cons_cons]; exact List.mem_cons_self, hk, h3⟩
    · obtain ⟨q, q1, q2⟩ := i2 p hp
      exact ⟨q, by rw [List.zip_cons_cons]; exact List.mem_cons_of_mem _ q1, q2⟩
theorem reps_pairs {K : Frag} {Hf H : Hp} : ∀ {qs : List (D × D)} {zp : List (V × V)}, qs.map (fun p => keyRow p.1) = zp.map (fun p => vkey H p.1) → (∀ q ∈ qs, ∀ p ∈ zp, keyRow q.1 = vkey H p.1 → Rep K Hf q.2 p.2) → Reps K Hf (qs.map (·.2)) (zp.map (·.2))
  | [], [], _, _ => Reps.nil
  | [], _ :: _, h, _ => by simp at h
  | _ :: _, [], h, _ => by simp at h
  | q :: qs, p :: zp, h, hr => by
    rw [List.map_cons, List.map_cons] at h
    injection h with e1 e2
    exact Reps.cons (hr q List.mem_cons_self p List.mem_cons_self e1) (reps_pairs e2 fun q' hq p' hp => hr q' (List.mem_cons_of_mem _ hq) p' (List.mem_cons_of_mem _ hp))
section
variable {X : Cx} {E : XK}
theorem mapKs_ex {F : List D → M S} {z : D} : ∀ {ds : List D} {x}, mapKs (keyOfF F z) ds = .ex x → False
  | [], _, e => by cases e
  | d :: ds, _, e => by
    unfold mapKs at e
    cases q1 : keyOfF F z d with
    | ok k =>
      rw [q1, M.bind_ok] at e
      cases q2 : mapKs (keyOfF F z) ds with
      | ok ks' => rw [q2, M.bind_ok] at e; cases e
      | ex x => exact mapKs_ex q2
      | bad => rw [q2] at e; cases e
    | ex x =>
      unfold keyOfF at q1
      split at q1 <;> cases q1
    | bad => rw [q1] at e; cases e
theorem pfd_sortK (i j : Nat) {x seen one fn tq : Str} {tl tc : Value} {p p2 p3 p4 p5 p6 p7 p8 pos lpos kpos : Pos} {params : Arguments} {lscope : Scope} {cT P cellA : Addr} {k : Nat} {fg : Addr} {fdg : FuncData} {ps : List Str} {F : List D → M S}
    (hc : X.calm = true) (hr : Room (k + 3) X.A) (G : FnOk X.prog X.w X.K X.mg X.base CX0 k fg fdg ps (spN X.K F)) (hmf : X.mg fn = some (.ref fg)) (hkf : keepIn X.K (.ref fg) = true) (hbf : Binds X.K fdg ps [])
    (hg : Gl X "sorted") (hm : X.mg "sorted" = none) (hv : bootBuiltins "sorted" = some (.builtin "sorted")) (hg2 : Gl X "list") (hm2 : X.mg "list" = none) (hv2 : bootBuiltins "list" = some (.type "list"))
    (hT : X.H₀ P = some (.tbl tl tc tq)) (hC : codeHdIn X.K cT P = true) (hB : BltAt X.mg X.base) (L : LamOk lscope one seen fn) (hcell : X.env.cells.lookup seen = some cellA) (hcl : closureFor lscope X.env = pure [(seen, cellA)])
    (hcode : X.env.code = .ref cT := by rfl) (hl : tl = rawInt lpos.line := by rfl) (hcc : tc = rawInt lpos.col := by rfl) (hq : X.env.qual ++ "<lambda>" = tq := by rfl) (hdef : defaultsOf params X.env = ([], []) := by rfl)
    (hbind : ∀ (pm ctv u : Value) (c' : Addr), bindArgs (kla_fn "<lambda>" tq params (.Call (.Name fn p5) [.Name one p6, .Name seen p7] [] p8) lscope [(seen, cellA)] pm (.ref c') ctv) ⟨[u], []⟩ = pure [(one, u)] := by intros; rfl)
    (hi : X.N[i]? = some x := by rfl) (hvis : Vis X.env.scope x := by first | exact Or.inl rfl | exact Or.inr (Or.inl rfl) | exact Or.inr (Or.inr rfl)) (hj : X.N[j]? = some seen := by rfl) (hkc : X.env.kindOf seen = some .cell := by rfl)
    (hd : (x == ("__debug__" : Str)) = false := by decide) (hcd : (x == ("__classdict__" : Str)) = false := by decide) (hdf : (fn == ("__debug__" : Str)) = false := by decide) (hd1 : (one == ("__debug__" : Str)) = false := by decide) (hcd1 : (one == ("__classdict__" : Str)) = false := by decide) (hd2 : (seen == ("__debug__" : Str)) = false := by decide) (hcd2 : (seen == ("__classdict__" : Str)) = false := by decide) :
    PFd X E (.Call (.Name "sorted" p) [.Call (.Name "list" p2) [.Name x p3] [] p4] [⟨some "key", .Lambda params (.Call (.Name fn p5) [.Name one p6, .Name seen p7] [] p8) lscope lpos, kpos⟩] pos) (fSortK i j F) := by
  refine ⟨_, pe_sortK i j hc hr G hmf hkf hbf hg hm hv hg2 hm2 hv2 hT hC hB L hcell hcl hcode hl hcc hq hdef hbind hi hvis hj hkc hd hcd hdf hd1 hcd1 hd2 hcd2, fun H0 B Hf sd σ H Q sr h => ?_⟩
  unfold fSortK at h
  split at h
  · rename_i kvs z ei ej
    cases q : mapKs (keyOfF F z) (kvs.map fun kv => D.tup (kv.1.map keyDd)) with
    | ok ks =>
      rw [q, M.bind_ok] at h
      split at h
      · rename_i hcnd
        rw [Bool.and_eq_true, Bool.and_eq_true] at hcnd
        obtain ⟨⟨hfew, hcd'⟩, hnd⟩ := hcnd
        have hnd := of_decide_eq_true hnd
        obtain ⟨a, s1, s2, s3, ys, s4, s5⟩ := sr.ow i _ ei rfl
        obtain ⟨zv, t1, t2⟩ := sr.im j _ ej
        have klen : ∀ {ds ks : List D}, mapKs (keyOfF F z) ds = .ok ks → ks.length = ds.length := by
          intro ds
          induction ds with
          | nil => intro ks e; cases e; rfl
          | cons d ds ih =>
            intro ks e
            unfold mapKs at e
            cases q1 : keyOfF F z d with
            | ok k =>
              rw [q1, M.bind_ok] at e
              cases q2 : mapKs (keyOfF F z) ds with
              | ok ks' => rw [q2, M.bind_ok] at e; cases e; rw [List.length_cons, List.length_cons, ih q2]
              | ex x => rw [q2] at e; cases e
              | bad => rw [q2] at e; cases e
            | ex x => rw [q1] at e; cases e
            | bad => rw [q1] at e; cases e
        have hkl := klen q
        rw [List.length_map] at hkl
        have hyl : kvs.length = ys.length := s5.length
        have hsm : kvs.length ≤ 1000000 := by have := of_decide_eq_true hfew; omega
        refine ⟨a, ys, zv, s1, s4, by omega, t1, fun c' oc H1 xs hH1 hlen hkeys => ?_⟩
        have gT := tupHf_gr sr.sub
        obtain ⟨Hf1, g1, gs⟩ : ∃ Hf1, Gr Hf H Hf1 H1 ∧ Same (tupHf Hf H) Hf1 := by
          rcases hH1 with rfl | ⟨hn, rfl⟩
          · exact ⟨_, gT, Same.refl _⟩
          · exact ⟨_, gT.trans (Gr.alloc gT.sub hn _), same_upd (gT.sub.free hn) _⟩
        have rk : Reps X.K Hf1 (kvs.map fun kv => D.tup (kv.1.map keyDd)) xs := by
          refine reps_at (by rw [List.length_map]; omega) fun n d hd => ?_
          rw [List.getElem?_map] at hd
          cases en : kvs[n]? with
          | none => rw [en] at hd; cases hd
          | some kv =>
            rw [en] at hd
            cases hd
            obtain ⟨w, w1, w2, w3⟩ := paired_get s5 en
            obtain ⟨b, b1, b2⟩ := hkeys n w.1 w.2 w1
            refine ⟨.ref b, b1, rep_tup.mpr ⟨b, _, rfl, gs _ _ (tupHf_at sr.sub b2), ?_⟩⟩
            rw [← w2]
            exact reps_keys _
        refine keys_data g1.sub rk (t2.mono g1.fz) q fun vs Hf2 H2 g2 rs => ?_
        obtain ⟨l, cd⟩ := condD_cd hcd'
        obtain ⟨ys', y1, y2, y3⟩ := rows_of rs cd.row
        refine ⟨⟨ys', y1.mono g2.sub, ⟨⟨l, y2, cd.hd⟩, fun x hx y hy hk => inj_nodup (y3 ▸ hnd) x hx y hy hk⟩⟩, fun L' zp hl' hL p1 p2 => ?_⟩
        have g12 := g1.trans g2
        refine h L' (zp.map (·.2)) Hf2 _ ⟨g12.fz, g2.sub.trans (same_upd hL _), g12.all.trans (same_upd hL _), g12.ban⟩ (g12.all.free hL) (g2.sub.free hL) upd_same ?_
        obtain ⟨z1, z2⟩ := reps_zip (H := H2) g2.sub rs (rk.mono g2.fz) (by rw [List.length_map]; exact hkl) cd.row
        have k1 : zp.map (fun p => vkey H2 p.1) = (sortPs (ks.zip (kvs.map fun kv => D.tup (kv.1.map keyDd)))).map (fun p => keyRow p.1) := by
          refine keys_same ?_ (List.pairwise_map.mpr p2) (List.pairwise_map.mpr (sortPs_sorted _))
          refine (p1.map _).trans ?_
          rw [z1]
          exact ((sortPs_perm _).map _).symm
        have nz : ((ks.zip (kvs.map fun kv => D.tup (kv.1.map keyDd))).map fun p => keyRow p.1).Nodup := by
          have : (ks.zip (kvs.map fun kv => D.tup (kv.1.map keyDd))).map (fun p => keyRow p.1) = ks.map keyRow := by
            show List.map (keyRow ∘ Prod.fst) _ = _
            rw [← List.map_map, List.map_fst_zip (by rw [List.length_map]; omega)]
          rw [this]; exact hnd
        refine reps_pairs k1.symm fun q1 hq1 p' hp' hk => ?_
        obtain ⟨q2, m1, m2, m3⟩ := z2 p' (p1.mem_iff.mp hp')
        have : q1 = q2 := inj_nodup nz q1 ((sortPs_perm _).mem_iff.mp hq1) q2 m1 (hk.trans m2)
        rw [this]; exact m3
      · exact h.elim
    | ex x => exact (mapKs_ex q).elim
    | bad => rw [q] at h; exact h.elim
  · exact h.elim
end
end DL

set_option maxHeartbeats 4000000
set_option linter.all false
set_option maxRecDepth 100000
namespace DL
open PySem PySem.Spec PyProof.Rows L2 PySem.W
/-! ### defs that make a lambda, and those that call them -/
def spT (K : Frag) (P : Addr) (tl tc : Value) (tq : Str) (F : List D → M S) : Sp := fun vs H Q E => H P = some (.tbl tl tc tq) ∧ spN K F vs H Q E
theorem body_d {P : Program} {w : World} {K : PySem.W.Frag} {mg : Str → Option Value} {base : Heap} {qual : Str} {scope : Scope} {body : List Stmt} {f : Addr} {N : List Str} {m n : Nat} {fb : DSt → M O} {cdv : Value} {A : Around} {outer : List Env} {s : Shared} {H : Hp} {E : XK} {vs : List V} {Q : VK}
    (hN : N.length = n + m) (hb : PSsd (cxOf CX0 P w K mg base N qual scope f cdv A outer s H E).nox E0 body fb) (h : spN K (fnD n m fb) vs H Q E) :
    ∃ t, PSs (cxOf CX0 P w K mg base N qual scope f cdv A outer s H E).nox body t ∧ t { nx := fun _ H' => Q .non H', rt := Q } (L2.start N vs) H := by
  obtain ⟨Hf, ds, s', e, r, hF, q⟩ := h
  obtain ⟨t, p, qt⟩ := hb
  unfold fnD at hF
  split at hF
  · rename_i hl
    refine ⟨t, p, qt H _ Hf _ (L2.start N vs) H _ (sr_start (N := N) (m := m) e r (by lia)) ?_⟩
    generalize fb (List.map (fun d => some (S.im d)) ds ++ List.replicate m none) = ro at hF
    have back : ∀ {v : V} {Hf' H' : Hp} {s : DL.S}, Same Hf Hf' → Fin' H (fun a => Lv H a ∧ Hf a = none) Hf' H' → RS K H Hf' H' s v → s = s' → Q v H' := fun {v Hf' H' s} e1 e2 e3 e4 => by
      subst e4
      exact q v Hf' H' ⟨e1, e2.sub, e2.all, fun a h1 h2 => e2.ban a ⟨h1, h2⟩⟩ e3
    cases ro with
    | ok o =>
      cases o with
      | rt s2 =>
        have e' : s2 = s' := by cases hF; rfl
        exact fun v Hf' H' e1 e2 e3 => back e1 e2 e3 e'
      | nx sd' =>
        have e' : DL.S.im .non = s' := by cases hF; rfl
        exact fun σ' Hf' H' e1 sr' => back (v := .non) (s := DL.S.im .non) e1 sr'.fin (show Rep K Hf' .non .non from rep_non.mpr rfl) e'
      | bk sd' => cases hF
      | ct sd' => cases hF
    | ex x => cases hF
    | bad => cases hF
  · cases hF
theorem len_d {K : Frag} {n m : Nat} {fb : DSt → M O} {vs : List V} {H : Hp} {Q : VK} {E : XK} (h : spN K (fnD n m fb) vs H Q E) : vs.length = n := by
  obtain ⟨Hf, ds, s, e, r, hF, _⟩ := h
  unfold fnD at hF
  split at hF
  · rename_i hl
    rw [← r.length, hl]
  · cases hF
section
variable {P : Program} {w : World} {K : PySem.W.Frag} {mg : Str → Option Value} {base : Heap} {x qual tq : Str} {tl tc : Value} {st : Stmt} {f Pt : Addr} {fd : FuncData} {N ps : List Str} {k m n : Nat} {fb : DSt → M O}
/-- one that calls such a def -/
theorem fn_dT (F : Fun K x qual st f fd) (sc : FnScope N ps (defScope st)) (hn : ps.length = n) (hN : N.length = n + m)
    (hbody : ∀ (cdv : Value) (A : Around) (outer : List Env) (s : Shared) (H : Hp) (E : XK), Room k (A.deeper (envOfC qual (defScope st) s.heap.objs.size f cdv)) → H Pt = some (.tbl tl tc tq) →
      PSsd (cxOf CX0 P w K mg base N qual (defScope st) f cdv A outer s H E).nox E0 (defBody st) fb) : FnOk P w K mg base CX0 (k + 1) f fd ps (spT K Pt tl tc tq (fnD n m fb)) :=
  F.ok sc (fun vs H Q E h => by rw [hn]; exact len_d h.2) fun cdv A outer s H vs Q E hr h => body_d hN (hbody cdv A outer s H E hr h.1) h.2
/-- one that makes a lambda -/
theorem fn_mT {name : Str} {oc kV doc pm ct : Value} {od an : Option Addr} {osl : Array (Option Value)} {cT : Addr} (lk : K.lookup f = some ⟨oc, od, .func (PySem.W.fnOf name qual (defArgs st) (defBody st) (defScope st) .none kV doc pm an (.ref cT) ct), osl⟩) (hcd : PySem.W.codeIn K (.ref cT) qual = true)
    (sc : FnScope N ps (defScope st)) (hn : ps.length = n) (hN : N.length = n + m)
    (hbody : ∀ (A : Around) (outer : List Env) (s : Shared) (H : Hp) (E : XK), Room k (A.deeper (envOfC qual (defScope st) s.heap.objs.size f (.ref cT))) → H Pt = some (.tbl tl tc tq) →
      PSsd (cxOf CX0 P w K mg base N qual (defScope st) f (.ref cT) A outer s H E).nox E0 (defBody st) fb) :
    FnOk P w K mg base CX0 (k + 1) f (PySem.W.fnOf name qual (defArgs st) (defBody st) (defScope st) .none kV doc pm an (.ref cT) ct) ps (spT K Pt tl tc tq (fnD n m fb)) :=
  fn_of lk hcd sc (fun vs H Q E h => by rw [hn]; exact len_d h.2) fun A outer s H vs Q E hr h => by
    obtain ⟨t, p, q⟩ := body_d hN (hbody A outer s H E hr h.1) h.2
    exact ⟨t, p.nox, q⟩
end
section
variable {X : Cx} {E : XK} {k : Nat} {f Pt : Addr} {fd : FuncData} {ps : List Str} {F : List D → M S} {x tq : Str} {tl tc : Value} {p pos : Pos} {a : Expr} {es : List Expr} {fs : DSt → M (List D)} {t : TA}
theorem pe_callT (G : FnOk X.prog X.w X.K X.mg X.base CX0 k f fd ps (spT X.K Pt tl tc tq F)) (hT : X.H₀ Pt = some (.tbl tl tc tq)) (hr : Room k X.A) (hg : Gl X x) (hm : X.mg x = some (.ref f)) (hk : PySem.W.keepIn X.K (.ref f) = true) (hb : Binds X.K fd ps [])
    (ha : PA X (a :: es) t) (hdb : (x == ("__debug__" : Str)) = false) (he : starEach (a :: es) X.env = (false, eval a X.env) :: starEach es X.env) (hpl : (backTo pos (starEach es X.env)).any (·.1) = false) :
    PE X (.Call (.Name x p) (a :: es) [] pos) (tCall (spN X.K F) [] E0 t) := by
  intro pins s σ H Q I h
  refine wpAny_Call_Name_kw (ld_glob I hg hm ?_ hdb)
  refine PySem.W.callWith_K (h₀ := X.base) I.ok.mod.kin hk (thn (ha pos pins s σ H _ I h) fun us s1 ⟨vs, H1, I1, r, q⟩ => ⟨I1.kIn, ?_⟩) he hpl
  exact run_fn G hr hb .nil pass0 I1 r ⟨I1.base.tbls _ _ _ _ hT, q⟩
theorem pd_callTb (G : FnOk X.prog X.w X.K X.mg X.base CX0 k f fd ps (spT X.K Pt tl tc tq F)) (hT : X.H₀ Pt = some (.tbl tl tc tq)) (hr : Room k X.A) (hm : X.mg x = some (.ref f)) (hk : PySem.W.keepIn X.K (.ref f) = true) (hb : Binds X.K fd ps [])
    (ha : PAd X E (a :: es) fs) (hg : Gl X x := by rfl) (hdb : (x == ("__debug__" : Str)) = false := by decide) (he : starEach (a :: es) X.env = (false, eval a X.env) :: starEach es X.env := by rfl) (hpl : (backTo pos (starEach es X.env)).any (·.1) = false := by rfl) :
    PEd X E (.Call (.Name x p) (a :: es) [] pos) (eCall F fs) := by
  obtain ⟨t, pt, qt⟩ := ha
  refine ⟨_, pe_callT G hT hr hg hm hk hb pt hdb he hpl, fun H0 B Hf sd σ H Q sr h => ?_⟩
  refine qt H0 B Hf sd σ H _ sr (Po.bind h fun ds vs Hf1 H1 _ g1 rs h1 => ?_)
  split at h1
  · rename_i s e
    refine ⟨Hf1, ds, s, g1.sub, by rw [List.append_nil]; exact rs, e, fun v Hf' H' g2 rv => ?_⟩
    cases s with
    | im d => exact h1 v Hf' H' g2 rv
    | ow es =>
      obtain ⟨p, rfl, e1, e2, xs, e3, e4⟩ := rv
      refine h1 _ (upd Hf' p (.lst xs)) H' ⟨g2.fz.trans (same_upd e2 _), fun b u q => ?_, g2.all, fun a h1 h2 => ?_⟩ (rep_lst.mpr ⟨p, xs, rfl, SqL.of upd_same, e4.mono (same_upd e2 _)⟩)
      · by_cases hb : b = p
        · subst hb; rw [upd_same] at q; rw [e3]; exact q
        · rw [upd_ne hb] at q; exact g2.sub b u q
      · have : a ≠ p := fun z => h1.nn (z ▸ e1)
        rw [upd_ne this]; exact g2.ban a h1 h2
    | od kvs => exact h1.elim
    | dk kvs => exact h1.elim
    | xc x => exact h1.elim
    | fn x => exact h1.elim
  · exact h1.elim
theorem pfd_callTb (G : FnOk X.prog X.w X.K X.mg X.base CX0 k f fd ps (spT X.K Pt tl tc tq F)) (hT : X.H₀ Pt = some (.tbl tl tc tq)) (hr : Room k X.A) (hm : X.mg x = some (.ref f)) (hk : PySem.W.keepIn X.K (.ref f) = true) (hb : Binds X.K fd ps [])
    (ha : PAd X E (a :: es) fs) (hg : Gl X x := by rfl) (hdb : (x == ("__debug__" : Str)) = false := by decide) (he : starEach (a :: es) X.env = (false, eval a X.env) :: starEach es X.env := by rfl) (hpl : (backTo pos (starEach es X.env)).any (·.1) = false := by rfl) :
    PFd X E (.Call (.Name x p) (a :: es) [] pos) (fCall F fs) := by
  obtain ⟨t, pt, qt⟩ := ha
  refine ⟨_, pe_callT G hT hr hg hm hk hb pt hdb he hpl, fun H0 B Hf sd σ H Q sr h => ?_⟩
  refine qt H0 B Hf sd σ H _ sr (PoF.bind h fun ds vs Hf1 H1 _ g1 rs h1 => ?_)
  split at h1
  · rename_i es e
    refine ⟨Hf1, ds, _, g1.sub, by rw [List.append_nil]; exact rs, e, fun v Hf' H' g2 rv => ?_⟩
    obtain ⟨p, rfl, e1, e2, xs, e3, e4⟩ := rv
    exact h1 p xs Hf' H' g2 e1 e2 e3 e4
  · exact h1.elim
end
/-- where the lambda of the last statement stands -/
def lamPosOf (st : Stmt) : Pos := match (defBody st).getLast? with
  | some (.Return (some (.Call _ _ [⟨_, .Lambda _ _ _ p, _⟩] _)) _) => p
  | _ => ⟨0, 0, 0, 0⟩
/-! ### the law's entry, with a table -/
theorem law_callT {P : Program} {w : World} {K : PySem.W.Frag} {mg mb : Str → Option Value} {k : Nat} {fa a cT Pt : Addr} {fd : FuncData} {x tq : Str} {tl tc : Value} {sp : Sp} {s₁ : Shared} {vs : List Value} {ns : List Int}
    (KX : K.In s₁.heap) (hns : s₁.heap.Ns mainGlobals mg) (hb : s₁.heap.Ns builtinsNs mb) (hbb : ∀ x : Str, x ≠ "__name__" → mb x = bootBuiltins x) (hlim : s₁.heap.NoLimit) (hbm : BltAt mg s₁.heap) (hg : s₁.gens = #[])
    (hP : s₁.heap.get? Pt = some (tabObj #[])) (hKP : K.lookup Pt = none) (hC : codeHdIn K cT Pt = true)
    (ha : s₁.heap.get? a = some { cls := .type "list", data := .seq vs.toArray }) (hi : IntsAre vs ns) (hl : ns.length ≤ sizeLine) (hr : Room k callerA)
    (F : ∀ base : Heap, K.In base → base.Ns mainGlobals mg → BltAt mg base → FnOk P w K mg base CX0 k fa fd [x] sp) (hbind : ∀ (s : Shared) (u : Value), BindsTo s fd ⟨[u], []⟩ [(x, u)])
    (hsp : ∀ H : Hp, H Pt = some (.tbl tl tc tq) → SqL K H a (ns.map V.int) → sp [.ref a] H (fun v _ => v = .bl true) fun _ _ _ => False) :
    codeAny (model P w) callerA (.call (.ref fa) ⟨[.ref a], []⟩) (fun r s' => r = .ok (.ret (.bool true)) ∧ OldK s₁.heap s'.heap ∧ s'.os = s₁.os ∧ AllBare s'.gens) s₁ := by
  have rv := vals_ints hi
  have lenV := hi.length
  have haP : a ≠ Pt := fun z => by rw [z, hP] at ha; cases ha
  have core : ∀ H : Hp, H Pt = some (.tbl tl tc tq) → (∀ b, b ≠ Pt → H b = none ∨ (b = a ∧ ∃ o xs, H b = some (.frz o (.lst xs)))) → SqL K H a (ns.map V.int) → HOk P w H s₁.heap → (H a ≠ none → K.lookup a = none) →
      codeAny (model P w) callerA (.call (.ref fa) ⟨[.ref a], []⟩) (fun r s' => r = .ok (.ret (.bool true)) ∧ OldK s₁.heap s'.heap ∧ s'.os = s₁.os ∧ AllBare s'.gens) s₁ := by
    intro H hT hO hS hok hK
    have base_of : ∀ {b : Addr} {o : Obj}, s₁.heap.get? b = some o → H b = none → (hidT s₁.heap H).get? b = some o := fun e n => hidT_get e n
    -- what is neither a list nor of no class is not tracked
    have free : ∀ {b : Addr} {o : Obj}, s₁.heap.get? b = some o → (∀ its n, o.data ≠ .seq its n) → (∀ fs, o.data ≠ .fields fs) → H b = none := fun {b o} e n1 n2 => by
      by_cases hbP : b = Pt
      · subst hbP
        rw [hP] at e; cases e
        exact absurd rfl (n2 _)
      · rcases hO b hbP with q | ⟨q, _⟩
        · exact q
        · subst q
          rw [ha] at e; cases e
          exact absurd rfl (n1 _ _)
    have nsK : ∀ {b : Addr} {m : Str → Option Value}, s₁.heap.Ns b m → (hidT s₁.heap H).Ns b m := fun {b m} ⟨o, es, ep, e, d, r⟩ => ⟨o, es, ep, base_of e (free e (fun _ _ q => by rw [d] at q; cases q) fun _ q => by rw [d] at q; cases q), d, r⟩
    have hKb : K.In (hidT s₁.heap H) := fun b o e => base_of (KX b o e) (by
      by_cases hbP : b = Pt
      · subst hbP; rw [hKP] at e; cases e
      · rcases hO b hbP with q | ⟨q, o', xs, q2⟩
        · exact q
        · subst q
          rw [hK (by rw [q2]; simp)] at e; cases e)
    have hM : Mod K mg (hidT s₁.heap H) := ⟨hKb, nsK hns, ⟨mb, nsK hb, hbb⟩, let ⟨mc, h1, h2⟩ := hlim; ⟨mc, nsK h1, h2⟩⟩
    have hBb : BltAt mg (hidT s₁.heap H) := by
      obtain ⟨bm, ob, b1, b2, b3, b4, b5, b6⟩ := hbm
      exact ⟨bm, ob, b1, b2, base_of b3 (free b3 (fun _ _ q => by rw [b6] at q; cases q) fun _ q => by rw [b6] at q; cases q), b4, b5, b6⟩
    have e0 : Env0 P w K mg (hidT s₁.heap H) callerA [] s₁ H := ⟨rfl, hM, fun b o e => of_hidT e, Nat.le_of_eq (hidT_size _ _), trivial, fun b hb => absurd (show b ∈ ([] : List Addr) from hb) (by simp), hok, .of_eq hg⟩
    refine codeAny_mono ((F _ hKb (nsK hns) hBb).run callerA [] s₁ H ⟨[.ref a], []⟩ [.ref a] [.ref a] _ _ hr e0 (hbind s₁ (.ref a)) (.cons rfl .nil) (hsp H hT hS)) fun r s' h => ?_
    cases r with
    | error e => exact False.elim h
    | ok fl =>
      cases fl with
      | next => exact False.elim h
      | brk => exact False.elim h
      | cont => exact False.elim h
      | ret u =>
        obtain ⟨v, H', os, bare, un, hok', r', q⟩ := h
        have q' : v = .bl true := q
        subst q'
        obtain rfl : u = Value.bool true := r'
        have kept : ∀ b o, b ≠ Pt → s₁.heap.get? b = some o → s'.heap.get? b = some o := fun b o hbP e => by
          rcases hO b hbP with q | ⟨_, ob, xs, q⟩
          · exact un.keep b o e q (by intro z; exact absurd (show b ∈ ([] : List Addr) from z) (by simp)) (by simp)
          · have z2 := un.frzs b ob _ q
            obtain ⟨e1, _⟩ := hok b _ q
            obtain ⟨e2, _⟩ := hok' b _ z2
            rw [e] at e1; cases e1
            exact e2
        obtain ⟨ps, eP, _⟩ := hok' Pt _ (un.tbls _ _ _ _ hT)
        obtain ⟨oc, ovs, _, _, _, _, _, _, _, c1, c2, c3, c4, _⟩ := codeHd_of_K KX hC
        refine ⟨rfl, ⟨fun b o e => ?_, fun b o e => ?_⟩, os, bare⟩
        · by_cases hbP : b = Pt
          · subst hbP
            rw [hP] at e
            cases e
            exact .inr (.inl ⟨⟨cT, oc, ovs, c1, c2, c3, c4⟩, rfl, #[], ps, rfl, by rw [eP]; simp⟩)
          · exact .inl (kept b o hbP e)
        · by_cases hbP : b = Pt
          · exact ⟨_, hbP ▸ eP⟩
          · exact ⟨o, kept b o hbP e⟩
  have tblOk : ∀ H : Hp, ObjOk P w H s₁.heap Pt (.tbl tl tc tq) := fun H => ⟨#[], hP, .inl rfl⟩
  cases hk : K.lookup a with
  | some o =>
    have e := KX a o hk
    rw [ha] at e
    cases e
    refine core (fun b => if b = Pt then some (.tbl tl tc tq) else none) (if_pos rfl) (fun b hb => .inl (if_neg hb)) (.inr ⟨_, vs.toArray, _, hk, rfl, rfl, rfl, by rw [List.size_toArray, lenV]; exact hl, by simpa using rv⟩) (fun b u z => ?_) fun z => absurd (if_neg haP) z
    by_cases hb : b = Pt
    · have z' := (if_pos hb).symm.trans z
      cases z'
      rw [hb]; exact tblOk _
    · have z' := (if_neg hb).symm.trans z
      cases z'
  | none =>
    refine core (fun b => if b = Pt then some (.tbl tl tc tq) else if b = a then some (.frz { cls := .type "list", data := .seq vs.toArray } (.lst (ns.map V.int))) else none) (if_pos rfl) (fun b hb => ?_) (.inl (.inr ⟨{ cls := .type "list", data := .seq vs.toArray }, by dsimp only; rw [if_neg haP, if_pos rfl]⟩)) (fun b u z => ?_) fun _ => hk
    · try dsimp only
      rw [if_neg hb]
      by_cases hba : b = a
      · rw [if_pos hba]; exact .inr ⟨hba, _, _, rfl⟩
      · rw [if_neg hba]; exact .inl rfl
    · dsimp only at z
      by_cases hb : b = Pt
      · rw [if_pos hb] at z
        cases z
        rw [hb]; exact tblOk _
      · rw [if_neg hb] at z
        by_cases hba : b = a
        · rw [if_pos hba] at z
          cases z
          rw [hba]
          exact ⟨ha, by rw [List.length_map]; exact hl, vs, _, rv, ha⟩
        · rw [if_neg hba] at z
          cases z
theorem walk_ofT {l : PySem.W.OpenLaw} {n k : Nat} {q : Program} {loose : List Str} {XP : (Str → Option Value) → Heap → Prop} {YP : World → Heap → Prop} {d : DefRec} {K : Params → PySem.W.Frag} {sp : World → Sp} {x tq : Str} {tl tc : Value} {Pt : Addr}
    (hn : l.most = some n) (hn2 : n ≤ sizeLine) (hdf : d.params.defaults = []) (hr : Room k callerA)
    (hY : ∀ (w : World) (h : Heap), YP w h → (K w.params).In h) (hY2 : ∀ (w : World) (h : Heap), YP w h → h.get? Pt = some (tabObj #[]))
    (F : ∀ (w : World) (mg : Str → Option Value) (fa : Addr) (h : Heap), (K w.params).In h → h.Ns mainGlobals mg → mg d.name = some (.ref fa) →
      ∃ (fd : FuncData) (cT : Addr), (K w.params).lookup Pt = none ∧ codeHdIn (K w.params) cT Pt = true ∧ (∀ (s : Shared) (u : Value), BindsTo s fd ⟨[u], []⟩ [(x, u)]) ∧
        ∀ base : Heap, (K w.params).In base → base.Ns mainGlobals mg → BltAt mg base → FnOk l.prog w (K w.params) mg base CX0 k fa fd [x] (sp w))
    (hsp : ∀ (w : World) (H : Hp) (a : Addr) (ns : List Int), ns.length ≤ n → H Pt = some (.tbl tl tc tq) → SqL (K w.params) H a (ns.map V.int) → sp w [.ref a] H (fun v _ => v = .bl true) fun _ _ _ => False) :
    PySem.W.WalkO q loose XP YP l.row.toRowW d [] (fun f vs => PySem.call f vs) := by
  refine Att.attach_call hn hdf fun w s₀ s₁ mg mb fa o pm cd doc a vs ns G Y ho hd hcd hmg hobj hints hlen hg => ?_
  have KX := hY w _ Y
  obtain ⟨fd, cT, h1, h2, hb, hF⟩ := F w mg fa _ KX G.T.g hmg
  exact law_callT KX G.T.g G.T.b G.T.builtins G.T.nolimit G.T.bmain hg (hY2 w _ Y) h1 h2 hobj hints (Nat.le_trans hlen hn2) hr hF hb fun H hT hS => hsp w H a ns hlen hT hS
end DL

set_option maxRecDepth 100000
set_option maxHeartbeats 4000000
namespace Law
open PySem L2 DL
def top (i : Nat) : Stmt := PySem.Challenge.pw_selfsight_k02_directions.main.body.getD i (.Pass ⟨0, 0, 0, 0⟩)
abbrev s_common_divisor : Stmt := top 1
abbrev s_direction : Stmt := top 3
abbrev s_quarter : Stmt := top 4
abbrev s_place_in_turn : Stmt := top 5
abbrev s_in_turn : Stmt := top 6
abbrev s__law_numbers : Stmt := top 9
abbrev s__law_gcd : Stmt := top 10
abbrev s__law_lowest : Stmt := top 11
abbrev s__law_whole : Stmt := top 12
abbrev s__law_step : Stmt := top 13
abbrev s__law_same_way : Stmt := top 14
abbrev s__law_place : Stmt := top 15
abbrev s__law_sooner : Stmt := top 16
abbrev s_law : Stmt := top 17
abbrev tL : Value := rawInt (lamPosOf s_in_turn).line
abbrev tC : Value := rawInt (lamPosOf s_in_turn).col
abbrev tQ : Str := "in_turn" ++ ".<locals>." ++ "<lambda>"
section
variable {P : Program} {w : World} {K : PySem.W.Frag} {mg : Str → Option Value} {base : Heap}
noncomputable def F_common_divisor : List D → M S := fnD 2 3
    (sSeq (sSet 2 (eCB bAbs (aCons (eVar 0) aNil)))
      (sSeq (sSet 3 (eCB bAbs (aCons (eVar 1) aNil)))
      (sSeq (sWhile (tB (eOp gNe (eVar 3) (eC (.int 0)))) (sSeq (sSet 4 (eOp gMod (eVar 2) (eVar 3)))
      (sSeq (sSet 2 (eVar 3))
      (sSet 3 (eVar 4)))))
      (sRet (eVar 2)))))
theorem sc_common_divisor : FnScope ["one", "other", "greater", "lesser", "rest"] ["one", "other"] (defScope s_common_divisor) := ⟨rfl, rfl, rfl, by decide +kernel, rfl, by decide +kernel, by decide +kernel⟩
theorem ok_common_divisor {f : Addr} {fd : FuncData} (F : Fun K "common_divisor" "common_divisor" s_common_divisor f fd) (z_abs : mg "abs" = none) : FnOk P w K mg base CX0 1 f fd ["one", "other"] (spN K F_common_divisor) :=
  fn_d F sc_common_divisor rfl rfl fun cdv A outer s H E hr =>
    (psd_cons (psd_set 2 sc_common_divisor.nd (pd_callB cd_abs (by rfl) z_abs (by rfl) (pad_cons (pd_var 0) pad_nil)))
      (psd_cons (psd_set 3 sc_common_divisor.nd (pd_callB cd_abs (by rfl) z_abs (by rfl) (pad_cons (pd_var 1) pad_nil)))
      (psd_cons (psd_while PassesOwn.never (ptd_cmp (od_ne hr.units) (pd_var 3) pd_int (nomark _)) (psd_cons (psd_set 4 sc_common_divisor.nd (pd_op od_mod (pd_var 2) (pd_var 3)))
      (psd_cons (psd_set 2 sc_common_divisor.nd (pd_var 3))
      (psd_one (psd_set 3 sc_common_divisor.nd (pd_var 4))))))
      (psd_one (psd_ret (pd_var 2))))))
noncomputable def F_direction : List D → M S := fnD 1 3
    (sSeq (sSet 1 (eOp gTimes (eOp gIx (eOp gIx (eVar 0) (eC (.int 0))) (eC (.int 0))) (eOp gIx (eOp gIx (eVar 0) (eC (.int 1))) (eC (.int 1)))))
      (sSeq (sSet 2 (eOp gTimes (eOp gIx (eOp gIx (eVar 0) (eC (.int 1))) (eC (.int 0))) (eOp gIx (eOp gIx (eVar 0) (eC (.int 0))) (eC (.int 1)))))
      (sSeq (sSet 3 (eCall F_common_divisor (aCons (eVar 1) (aCons (eVar 2) aNil))))
      (sRet (eTup (aCons (eOp gFdiv (eVar 1) (eVar 3)) (aCons (eOp gFdiv (eVar 2) (eVar 3)) aNil)))))))
theorem sc_direction : FnScope ["step", "across", "upward", "divisor"] ["step"] (defScope s_direction) := ⟨rfl, rfl, rfl, by decide +kernel, rfl, by decide +kernel, by decide +kernel⟩
theorem ok_direction {f : Addr} {fd : FuncData} (F : Fun K "direction" "direction" s_direction f fd) {f_common_divisor : Addr} {fd_common_divisor : FuncData} (G_common_divisor : FnOk P w K mg base CX0 1 f_common_divisor fd_common_divisor ["one", "other"] (spN K F_common_divisor)) (b_common_divisor : Binds K fd_common_divisor ["one", "other"] []) (k_common_divisor : PySem.W.keepIn K (.ref f_common_divisor) = true) (m_common_divisor : mg "common_divisor" = some (.ref f_common_divisor)) : FnOk P w K mg base CX0 2 f fd ["step"] (spN K F_direction) :=
  fn_d F sc_direction rfl rfl fun cdv A outer s H E hr =>
    (psd_cons (psd_set 1 sc_direction.nd (pd_op od_times (pd_ix (pd_ix (pd_var 0) pd_int (fun _ _ => rfl)) pd_int (fun _ _ => rfl)) (pd_ix (pd_ix (pd_var 0) pd_int (fun _ _ => rfl)) pd_int (fun _ _ => rfl))))
      (psd_cons (psd_set 2 sc_direction.nd (pd_op od_times (pd_ix (pd_ix (pd_var 0) pd_int (fun _ _ => rfl)) pd_int (fun _ _ => rfl)) (pd_ix (pd_ix (pd_var 0) pd_int (fun _ _ => rfl)) pd_int (fun _ _ => rfl))))
      (psd_cons (psd_set 3 sc_direction.nd (pd_call G_common_divisor (hr.mono (by decide)) m_common_divisor k_common_divisor b_common_divisor (pad_cons (pd_var 1) (pad_cons (pd_var 2) pad_nil))))
      (psd_one (psd_ret (pd_tup (pad_cons (pd_op od_fdiv (pd_var 1) (pd_var 3)) (pad_cons (pd_op od_fdiv (pd_var 2) (pd_var 3)) pad_nil))))))))
noncomputable def F_quarter : List D → M S := fnD 1 0
    (sSeq (sIf (tA (tB (eOp gGt (eOp gIx (eVar 0) (eC (.int 0))) (eC (.int 0)))) (tB (eOp gGe (eOp gIx (eVar 0) (eC (.int 1))) (eC (.int 0))))) (sRet (eC (.int 0))) sNil)
      (sSeq (sIf (tB (eOp gGt (eOp gIx (eVar 0) (eC (.int 1))) (eC (.int 0)))) (sRet (eC (.int 1))) sNil)
      (sSeq (sIf (tB (eOp gLt (eOp gIx (eVar 0) (eC (.int 0))) (eC (.int 0)))) (sRet (eC (.int 2))) sNil)
      (sRet (eC (.int 3))))))
theorem sc_quarter : FnScope ["way"] ["way"] (defScope s_quarter) := ⟨rfl, rfl, rfl, by decide +kernel, rfl, by decide +kernel, by decide +kernel⟩
theorem ok_quarter {f : Addr} {fd : FuncData} (F : Fun K "quarter" "quarter" s_quarter f fd)  : FnOk P w K mg base CX0 1 f fd ["way"] (spN K F_quarter) :=
  fn_d F sc_quarter rfl rfl fun cdv A outer s H E hr =>
    (psd_cons (psd_if ((pwd_and (ptd_cmp od_gt (pd_ix (pd_var 0) pd_int (fun _ _ => rfl)) pd_int (nomark _)) (pwd_and1 (ptd_cmp od_ge (pd_ix (pd_var 0) pd_int (fun _ _ => rfl)) pd_int (nomark _))))).pt (psd_one (psd_ret pd_int)) psd_nil)
      (psd_cons (psd_if (ptd_cmp od_gt (pd_ix (pd_var 0) pd_int (fun _ _ => rfl)) pd_int (nomark _)) (psd_one (psd_ret pd_int)) psd_nil)
      (psd_cons (psd_if (ptd_cmp od_lt (pd_ix (pd_var 0) pd_int (fun _ _ => rfl)) pd_int (nomark _)) (psd_one (psd_ret pd_int)) psd_nil)
      (psd_one (psd_ret pd_int)))))
noncomputable def F_place_in_turn : List D → M S := fnD 2 3
    (sSeq (sSet 2 (eCall F_quarter (aCons (eVar 0) aNil)))
      (sSeq (sSet 3 (eCB bAbs (aCons (eOp gIx (eVar 0) (eOp gMod (eVar 2) (eC (.int 2)))) aNil)))
      (sSeq (sSet 4 (eCB bAbs (aCons (eOp gIx (eVar 0) (eOp gSub (eC (.int 1)) (eOp gMod (eVar 2) (eC (.int 2))))) aNil)))
      (sRet (eTup (aCons (eVar 2) (aCons (eOp gFdiv (eOp gTimes (eVar 4) (eVar 1)) (eVar 3)) aNil)))))))
theorem sc_place_in_turn : FnScope ["way", "scale", "quarters", "ahead", "leftward"] ["way", "scale"] (defScope s_place_in_turn) := ⟨rfl, rfl, rfl, by decide +kernel, rfl, by decide +kernel, by decide +kernel⟩
theorem ok_place_in_turn {f : Addr} {fd : FuncData} (F : Fun K "place_in_turn" "place_in_turn" s_place_in_turn f fd) {f_quarter : Addr} {fd_quarter : FuncData} (G_quarter : FnOk P w K mg base CX0 1 f_quarter fd_quarter ["way"] (spN K F_quarter)) (b_quarter : Binds K fd_quarter ["way"] []) (k_quarter : PySem.W.keepIn K (.ref f_quarter) = true) (m_quarter : mg "quarter" = some (.ref f_quarter)) (z_abs : mg "abs" = none) : FnOk P w K mg base CX0 2 f fd ["way", "scale"] (spN K F_place_in_turn) :=
  fn_d F sc_place_in_turn rfl rfl fun cdv A outer s H E hr =>
    (psd_cons (psd_set 2 sc_place_in_turn.nd (pd_call G_quarter (hr.mono (by decide)) m_quarter k_quarter b_quarter (pad_cons (pd_var 0) pad_nil)))
      (psd_cons (psd_set 3 sc_place_in_turn.nd (pd_callB cd_abs (by rfl) z_abs (by rfl) (pad_cons (pd_ix (pd_var 0) (pd_op od_mod (pd_var 2) pd_int) (fun _ _ => rfl)) pad_nil)))
      (psd_cons (psd_set 4 sc_place_in_turn.nd (pd_callB cd_abs (by rfl) z_abs (by rfl) (pad_cons (pd_ix (pd_var 0) (pd_op od_sub pd_int (pd_op od_mod (pd_var 2) pd_int)) (fun _ _ => rfl)) pad_nil)))
      (psd_one (psd_ret (pd_tup (pad_cons (pd_var 2) (pad_cons (pd_op od_fdiv (pd_op od_times (pd_var 4) (pd_var 1)) (pd_var 3)) pad_nil))))))))
noncomputable def F_in_turn : List D → M S := fnD 1 4
    (sSeq (sDNewT 1)
      (sSeq (sSet 2 (eC (.int 0)))
      (sSeq (sFor (iSeq (eVar 0)) (gNm 3) (sSeq (sDPut 1 (eVar 3) (eC (.bl true)))
      (sSet 2 (eCB bMax (aCons (eVar 2) (aCons (eCB bAbs (aCons (eOp gIx (eVar 3) (eC (.int 0))) aNil)) (aCons (eCB bAbs (aCons (eOp gIx (eVar 3) (eC (.int 1))) aNil)) aNil)))))))
      (sSeq (sSet 4 (eOp gTimes (eVar 2) (eVar 2)))
      (sRetF (fSortK 1 4 F_place_in_turn))))))
theorem sc_in_turn : FnScope ["directions", "once", "greatest", "way", "scale"] ["directions"] (defScope s_in_turn) := ⟨rfl, rfl, rfl, by decide +kernel, rfl, by decide +kernel, by decide +kernel⟩
theorem ok_in_turn {f cT Pt : Addr} {oc kV doc pm ct : Value} {od an : Option Addr} {osl : Array (Option Value)} (lk : K.lookup f = some ⟨oc, od, .func (PySem.W.fnOf "in_turn" "in_turn" (defArgs s_in_turn) (defBody s_in_turn) (defScope s_in_turn) .none kV doc pm an (.ref cT) ct), osl⟩) (hcd : PySem.W.codeIn K (.ref cT) "in_turn" = true) (hC : PySem.W.codeHdIn K cT Pt = true) (hB : BltAt mg base) {f_place_in_turn : Addr} {fd_place_in_turn : FuncData} (G_place_in_turn : FnOk P w K mg base CX0 2 f_place_in_turn fd_place_in_turn ["way", "scale"] (spN K F_place_in_turn)) (b_place_in_turn : Binds K fd_place_in_turn ["way", "scale"] []) (k_place_in_turn : PySem.W.keepIn K (.ref f_place_in_turn) = true) (m_place_in_turn : mg "place_in_turn" = some (.ref f_place_in_turn)) (z_abs : mg "abs" = none) (z_max : mg "max" = none) (z_sorted : mg "sorted" = none) (z_list : mg "list" = none) : FnOk P w K mg base CX0 6 f (PySem.W.fnOf "in_turn" "in_turn" (defArgs s_in_turn) (defBody s_in_turn) (defScope s_in_turn) .none kV doc pm an (.ref cT) ct) ["directions"] (spT K Pt tL tC tQ F_in_turn) :=
  fn_mT lk hcd sc_in_turn rfl rfl fun A outer s H E hr hT =>
    (psd_cons (psd_dnewT 1 sc_in_turn.nd)
      (psd_cons (psd_set 2 sc_in_turn.nd pd_int)
      (psd_cons (psd_for PassesOwn.never rfl (pid_seq (pd_var 0)) (pgd_name 3 sc_in_turn.nd) (psd_cons (psd_dput 1 hr.units (pd_var 3) pd_bl)
      (psd_one (psd_set 2 sc_in_turn.nd (pd_callB (cd_max rfl) (by rfl) z_max (by rfl) (pad_cons (pd_var 2) (pad_cons (pd_callB cd_abs (by rfl) z_abs (by rfl) (pad_cons (pd_ix (pd_var 3) pd_int (fun _ _ => rfl)) pad_nil)) (pad_cons (pd_callB cd_abs (by rfl) z_abs (by rfl) (pad_cons (pd_ix (pd_var 3) pd_int (fun _ _ => rfl)) pad_nil)) pad_nil))))))))
      (psd_cons (psd_set 4 sc_in_turn.nd (pd_op od_times (pd_var 2) (pd_var 2)))
      (psd_one (psd_retF (pfd_sortK 1 4 rfl (hr.mono (by decide)) G_place_in_turn m_place_in_turn k_place_in_turn b_place_in_turn (by rfl) z_sorted (by rfl) (by rfl) z_list (by rfl) hT hC hB ⟨⟨rfl, rfl, rfl, by decide +kernel, by decide +kernel, by decide +kernel, by decide +kernel⟩, by decide +kernel⟩ rfl rfl)))))))
noncomputable def F__law_numbers : List D → M S := fnD 2 4
    (sSeq (sOwn 2 (fLst aNil))
      (sSeq (sSet 3 (eOp gMod (eOp gTimes (eOp gPlus (eOp gMod (eVar 0) (eC (.int 1999999973))) (eC (.int 31))) (eC (.int 765432101))) (eC (.int 1999999973))))
      (sSeq (sSet 4 (eC (.int 0)))
      (sSeq (sIf (tO (tB (eOp gLt (eVar 0) (eC (.int 0)))) (tB (eOp gGe (eVar 0) (eOp gPow (eC (.int 10)) (eC (.int 18)))))) (sSet 4 (eCB bAbs (aCons (eVar 0) aNil))) sNil)
      (sSeq (sFor (iRange1 (aCons (eVar 1) aNil)) (gNm 5) (sSeq (sSet 3 (eOp gMod (eOp gPlus (eOp gPlus (eOp gTimes (eVar 3) (eOp gPlus (eOp gMod (eVar 3) (eC (.int 65521))) (eC (.int 40487)))) (eOp gTimes (eC (.int 7)) (eVar 5))) (eC (.int 5))) (eC (.int 1999999973))))
      (sSeq (sApp 2 (eOp gIx (eLst (aCons (eVar 3) (aCons (eOp gMod (eVar 4) (eC (.int 1000000))) aNil))) (eCB bInt (aCons (eOp gGt (eVar 4) (eC (.int 0))) aNil))))
      (sSet 4 (eOp gFdiv (eVar 4) (eC (.int 1000000)))))))
      (sRetO 2))))))
theorem sc__law_numbers : FnScope ["_law_cell_here", "_law_many", "_law_found", "_law_number", "_law_digits", "_law_k"] ["_law_cell_here", "_law_many"] (defScope s__law_numbers) := ⟨rfl, rfl, rfl, by decide +kernel, rfl, by decide +kernel, by decide +kernel⟩
theorem ok__law_numbers {f : Addr} {fd : FuncData} (F : Fun K "_law_numbers" "_law_numbers" s__law_numbers f fd) (z_abs : mg "abs" = none) (z_range : mg "range" = none) (z_int : mg "int" = none) : FnOk P w K mg base CX0 1 f fd ["_law_cell_here", "_law_many"] (spN K F__law_numbers) :=
  fn_d F sc__law_numbers rfl rfl fun cdv A outer s H E hr =>
    (psd_cons (psd_own 2 sc__law_numbers.nd (pfd_lst pad_nil))
      (psd_cons (psd_set 3 sc__law_numbers.nd (pd_op od_mod (pd_op od_times (pd_op od_plus (pd_op od_mod (pd_var 0) pd_int) pd_int) pd_int) pd_int))
      (psd_cons (psd_set 4 sc__law_numbers.nd pd_int)
      (psd_cons (psd_if ((pwd_or (ptd_cmp od_lt (pd_var 0) pd_int (nomark _)) (pwd_or1 (ptd_cmp od_ge (pd_var 0) (pd_op od_pow pd_int pd_int) (nomark _))))).pt (psd_one (psd_set 4 sc__law_numbers.nd (pd_callB cd_abs (by rfl) z_abs (by rfl) (pad_cons (pd_var 0) pad_nil)))) psd_nil)
      (psd_cons (psd_for PassesOwn.never rfl (pid_range1 (by rfl) z_range (pad_cons (pd_var 1) pad_nil)) (pgd_name 5 sc__law_numbers.nd) (psd_cons (psd_set 3 sc__law_numbers.nd (pd_op od_mod (pd_op od_plus (pd_op od_plus (pd_op od_times (pd_var 3) (pd_op od_plus (pd_op od_mod (pd_var 3) pd_int) pd_int)) (pd_op od_times pd_int (pd_var 5))) pd_int) pd_int))
      (psd_cons (psd_app 2 (pd_ix (pd_lst (pad_cons (pd_var 3) (pad_cons (pd_op od_mod (pd_var 4) pd_int) pad_nil))) (pd_callT cd_int (by rfl) z_int (by rfl) (pad_cons (pd_cmp od_gt (pd_var 4) pd_int (nomark _)) pad_nil)) (fun _ _ => rfl)))
      (psd_one (psd_set 4 sc__law_numbers.nd (pd_op od_fdiv (pd_var 4) pd_int))))))
      (psd_one (psd_retO 2)))))))
noncomputable def F__law_gcd : List D → M S := fnD 2 2
    (sSeq (sAsg (eCB bSorted (aCons (eLst (aCons (eCB bAbs (aCons (eVar 0) aNil)) (aCons (eCB bAbs (aCons (eVar 1) aNil)) aNil))) aNil)) (gTupD 2 (gsCons (gNm 2) (gsCons (gNm 3) gsNil))))
      (sSeq (sWhile (tB (eOp gGt (eVar 2) (eC (.int 0)))) (sPar 2 3 (aCons (eOp gMod (eVar 3) (eVar 2)) (aCons (eVar 2) aNil))))
      (sRet (eVar 3))))
theorem sc__law_gcd : FnScope ["_law_one", "_law_other", "_law_low", "_law_high"] ["_law_one", "_law_other"] (defScope s__law_gcd) := ⟨rfl, rfl, rfl, by decide +kernel, rfl, by decide +kernel, by decide +kernel⟩
theorem ok__law_gcd {f : Addr} {fd : FuncData} (F : Fun K "_law_gcd" "_law_gcd" s__law_gcd f fd) (z_abs : mg "abs" = none) (z_sorted : mg "sorted" = none) : FnOk P w K mg base CX0 1 f fd ["_law_one", "_law_other"] (spN K F__law_gcd) :=
  fn_d F sc__law_gcd rfl rfl fun cdv A outer s H E hr =>
    (psd_cons (psd_asg (pd_callB cd_sorted (by rfl) z_sorted (by rfl) (pad_cons (pd_lst (pad_cons (pd_callB cd_abs (by rfl) z_abs (by rfl) (pad_cons (pd_var 0) pad_nil)) (pad_cons (pd_callB cd_abs (by rfl) z_abs (by rfl) (pad_cons (pd_var 1) pad_nil)) pad_nil))) pad_nil)) (pgd_tup rfl (pgsd_cons (pgd_name 2 sc__law_gcd.nd) (pgsd_cons (pgd_name 3 sc__law_gcd.nd) pgsd_nil))))
      (psd_cons (psd_while PassesOwn.never (ptd_cmp od_gt (pd_var 2) pd_int (nomark _)) (psd_one (psd_par 2 3 rfl sc__law_gcd.nd (pad_cons (pd_op od_mod (pd_var 3) (pd_var 2)) (pad_cons (pd_var 2) pad_nil)) (by rfl))))
      (psd_one (psd_ret (pd_var 3)))))
noncomputable def F__law_lowest : List D → M S := fnD 2 1
    (sSeq (sSet 2 (eCall F__law_gcd (aCons (eVar 0) (aCons (eVar 1) aNil))))
      (sRet (eTup (aCons (eOp gFdiv (eVar 0) (eVar 2)) (aCons (eOp gFdiv (eVar 1) (eVar 2)) aNil)))))
theorem sc__law_lowest : FnScope ["_law_top", "_law_bottom", "_law_common"] ["_law_top", "_law_bottom"] (defScope s__law_lowest) := ⟨rfl, rfl, rfl, by decide +kernel, rfl, by decide +kernel, by decide +kernel⟩
theorem ok__law_lowest {f : Addr} {fd : FuncData} (F : Fun K "_law_lowest" "_law_lowest" s__law_lowest f fd) {f__law_gcd : Addr} {fd__law_gcd : FuncData} (G__law_gcd : FnOk P w K mg base CX0 1 f__law_gcd fd__law_gcd ["_law_one", "_law_other"] (spN K F__law_gcd)) (b__law_gcd : Binds K fd__law_gcd ["_law_one", "_law_other"] []) (k__law_gcd : PySem.W.keepIn K (.ref f__law_gcd) = true) (m__law_gcd : mg "_law_gcd" = some (.ref f__law_gcd)) : FnOk P w K mg base CX0 2 f fd ["_law_top", "_law_bottom"] (spN K F__law_lowest) :=
  fn_d F sc__law_lowest rfl rfl fun cdv A outer s H E hr =>
    (psd_cons (psd_set 2 sc__law_lowest.nd (pd_call G__law_gcd (hr.mono (by decide)) m__law_gcd k__law_gcd b__law_gcd (pad_cons (pd_var 0) (pad_cons (pd_var 1) pad_nil))))
      (psd_one (psd_ret (pd_tup (pad_cons (pd_op od_fdiv (pd_var 0) (pd_var 2)) (pad_cons (pd_op od_fdiv (pd_var 1) (pd_var 2)) pad_nil))))))
noncomputable def F__law_whole : List D → M S := fnD 1 0
    (sRet (eAnd (eIs "int" (eVar 0)) (eNot (eIs "bool" (eVar 0)))))
theorem sc__law_whole : FnScope ["_law_found"] ["_law_found"] (defScope s__law_whole) := ⟨rfl, rfl, rfl, by decide +kernel, rfl, by decide +kernel, by decide +kernel⟩
theorem ok__law_whole {f : Addr} {fd : FuncData} (F : Fun K "_law_whole" "_law_whole" s__law_whole f fd) (z_isinstance : mg "isinstance" = none) (z_int : mg "int" = none) (z_bool : mg "bool" = none) : FnOk P w K mg base CX0 1 f fd ["_law_found"] (spN K F__law_whole) :=
  fn_d F sc__law_whole rfl rfl fun cdv A outer s H E hr =>
    (psd_one (psd_ret (pd_and (pd_isinst "int" (by rfl) z_isinstance z_int (by rfl) (by rfl) (pd_var 0)) (pd_one (pd_not (pd_isinst "bool" (by rfl) z_isinstance z_bool (by rfl) (by rfl) (pd_var 0)))))))
noncomputable def F__law_step : List D → M S := fnD 1 5
    (sSeq (sSet 1 (eCall F__law_numbers (aCons (eVar 0) (aCons (eC (.int 6)) aNil))))
      (sSeq (sSet 2 (eOp gIx (eLst (aCons (eC (.int 12)) (aCons (eC (.int 12)) (aCons (eC (.int 12)) (aCons (eC (.int 80000)) aNil))))) (eOp gMod (eOp gIx (eVar 1) (eC (.int 4))) (eC (.int 4)))))
      (sSeq (sSet 3 (eLst (aCons (eC (.int 1)) (aCons (eC (.int 1)) aNil))))
      (sSeq (sIf (tB (eOp gEq (eOp gMod (eOp gIx (eVar 1) (eC (.int 5))) (eC (.int 2))) (eC (.int 1)))) (sSet 3 (eLst (aCons (eOp gPlus (eC (.int 1)) (eOp gMod (eOp gIx (eVar 1) (eC (.int 2))) (eC (.int 12)))) (aCons (eOp gPlus (eC (.int 1)) (eOp gMod (eOp gIx (eVar 1) (eC (.int 3))) (eC (.int 12)))) aNil)))) sNil)
      (sSeq (sSet 4 (eOp gSub (eOp gMod (eOp gIx (eVar 1) (eC (.int 0))) (eOp gPlus (eOp gTimes (eC (.int 2)) (eVar 2)) (eC (.int 1)))) (eVar 2)))
      (sSeq (sSet 5 (eOp gSub (eOp gMod (eOp gIx (eVar 1) (eC (.int 1))) (eOp gPlus (eOp gTimes (eC (.int 2)) (eVar 2)) (eC (.int 1)))) (eVar 2)))
      (sSeq (sIf (tA (tB (eOp gEq (eVar 4) (eC (.int 0)))) (tB (eOp gEq (eVar 5) (eC (.int 0))))) (sSet 4 (eC (.int 1))) sNil)
      (sRet (eTup (aCons (eCall F__law_lowest (aCons (eVar 4) (aCons (eOp gIx (eVar 3) (eC (.int 0))) aNil))) (aCons (eCall F__law_lowest (aCons (eVar 5) (aCons (eOp gIx (eVar 3) (eC (.int 1))) aNil))) aNil)))))))))))
theorem sc__law_step : FnScope ["_law_cell_here", "_law_xs", "_law_most", "_law_bottoms", "_law_dx", "_law_dy"] ["_law_cell_here"] (defScope s__law_step) := ⟨rfl, rfl, rfl, by decide +kernel, rfl, by decide +kernel, by decide +kernel⟩
theorem ok__law_step {f : Addr} {fd : FuncData} (F : Fun K "_law_step" "_law_step" s__law_step f fd) {f__law_numbers : Addr} {fd__law_numbers : FuncData} (G__law_numbers : FnOk P w K mg base CX0 1 f__law_numbers fd__law_numbers ["_law_cell_here", "_law_many"] (spN K F__law_numbers)) (b__law_numbers : Binds K fd__law_numbers ["_law_cell_here", "_law_many"] []) (k__law_numbers : PySem.W.keepIn K (.ref f__law_numbers) = true) (m__law_numbers : mg "_law_numbers" = some (.ref f__law_numbers)) {f__law_lowest : Addr} {fd__law_lowest : FuncData} (G__law_lowest : FnOk P w K mg base CX0 2 f__law_lowest fd__law_lowest ["_law_top", "_law_bottom"] (spN K F__law_lowest)) (b__law_lowest : Binds K fd__law_lowest ["_law_top", "_law_bottom"] []) (k__law_lowest : PySem.W.keepIn K (.ref f__law_lowest) = true) (m__law_lowest : mg "_law_lowest" = some (.ref f__law_lowest)) : FnOk P w K mg base CX0 3 f fd ["_law_cell_here"] (spN K F__law_step) :=
  fn_d F sc__law_step rfl rfl fun cdv A outer s H E hr =>
    (psd_cons (psd_set 1 sc__law_step.nd (pd_call G__law_numbers (hr.mono (by decide)) m__law_numbers k__law_numbers b__law_numbers (pad_cons (pd_var 0) (pad_cons pd_int pad_nil))))
      (psd_cons (psd_set 2 sc__law_step.nd (pd_ix (pd_lst (pad_cons pd_int (pad_cons pd_int (pad_cons pd_int (pad_cons pd_int pad_nil))))) (pd_op od_mod (pd_ix (pd_var 1) pd_int (fun _ _ => rfl)) pd_int) (fun _ _ => rfl)))
      (psd_cons (psd_set 3 sc__law_step.nd (pd_lst (pad_cons pd_int (pad_cons pd_int pad_nil))))
      (psd_cons (psd_if (ptd_cmp (od_eq hr.units) (pd_op od_mod (pd_ix (pd_var 1) pd_int (fun _ _ => rfl)) pd_int) pd_int (nomark _)) (psd_one (psd_set 3 sc__law_step.nd (pd_lst (pad_cons (pd_op od_plus pd_int (pd_op od_mod (pd_ix (pd_var 1) pd_int (fun _ _ => rfl)) pd_int)) (pad_cons (pd_op od_plus pd_int (pd_op od_mod (pd_ix (pd_var 1) pd_int (fun _ _ => rfl)) pd_int)) pad_nil))))) psd_nil)
      (psd_cons (psd_set 4 sc__law_step.nd (pd_op od_sub (pd_op od_mod (pd_ix (pd_var 1) pd_int (fun _ _ => rfl)) (pd_op od_plus (pd_op od_times pd_int (pd_var 2)) pd_int)) (pd_var 2)))
      (psd_cons (psd_set 5 sc__law_step.nd (pd_op od_sub (pd_op od_mod (pd_ix (pd_var 1) pd_int (fun _ _ => rfl)) (pd_op od_plus (pd_op od_times pd_int (pd_var 2)) pd_int)) (pd_var 2)))
      (psd_cons (psd_if ((pwd_and (ptd_cmp (od_eq hr.units) (pd_var 4) pd_int (nomark _)) (pwd_and1 (ptd_cmp (od_eq hr.units) (pd_var 5) pd_int (nomark _))))).pt (psd_one (psd_set 4 sc__law_step.nd pd_int)) psd_nil)
      (psd_one (psd_ret (pd_tup (pad_cons (pd_call G__law_lowest (hr.mono (by decide)) m__law_lowest k__law_lowest b__law_lowest (pad_cons (pd_var 4) (pad_cons (pd_ix (pd_var 3) pd_int (fun _ _ => rfl)) pad_nil))) (pad_cons (pd_call G__law_lowest (hr.mono (by decide)) m__law_lowest k__law_lowest b__law_lowest (pad_cons (pd_var 5) (pad_cons (pd_ix (pd_var 3) pd_int (fun _ _ => rfl)) pad_nil))) pad_nil))))))))))))
noncomputable def F__law_same_way : List D → M S := fnD 2 4
    (sSeq (sAsg (eVar 1) (gTupD 2 (gsCons (gNm 2) (gsCons (gNm 3) gsNil))))
      (sSeq (sSet 4 (eOp gTimes (eOp gIx (eVar 2) (eC (.int 0))) (eOp gIx (eVar 3) (eC (.int 1)))))
      (sSeq (sSet 5 (eOp gTimes (eOp gIx (eVar 3) (eC (.int 0))) (eOp gIx (eVar 2) (eC (.int 1)))))
      (sSeq (sIf (tO (tN (tB (eIs "tuple" (eVar 0)))) (tO (tB (eOp gNe (eCB bLen (aCons (eVar 0) aNil)) (eC (.int 2)))) (tO (tN (tB (eCall F__law_whole (aCons (eOp gIx (eVar 0) (eC (.int 0))) aNil)))) (tN (tB (eCall F__law_whole (aCons (eOp gIx (eVar 0) (eC (.int 1))) aNil))))))) (sRet (eC (.bl false))) sNil)
      (sSeq (sIf (tO (tB (eOp gNe (eCall F__law_gcd (aCons (eOp gIx (eVar 0) (eC (.int 0))) (aCons (eOp gIx (eVar 0) (eC (.int 1))) aNil))) (eC (.int 1)))) (tB (eOp gNe (eOp gTimes (eOp gIx (eVar 0) (eC (.int 0))) (eVar 5)) (eOp gTimes (eOp gIx (eVar 0) (eC (.int 1))) (eVar 4))))) (sRet (eC (.bl false))) sNil)
      (sRet (eOp gGt (eOp gPlus (eOp gTimes (eOp gIx (eVar 0) (eC (.int 0))) (eVar 4)) (eOp gTimes (eOp gIx (eVar 0) (eC (.int 1))) (eVar 5))) (eC (.int 0)))))))))
theorem sc__law_same_way : FnScope ["_law_found", "_law_step_here", "_law_dx", "_law_dy", "_law_p", "_law_q"] ["_law_found", "_law_step_here"] (defScope s__law_same_way) := ⟨rfl, rfl, rfl, by decide +kernel, rfl, by decide +kernel, by decide +kernel⟩
theorem ok__law_same_way {f : Addr} {fd : FuncData} (F : Fun K "_law_same_way" "_law_same_way" s__law_same_way f fd) {f__law_whole : Addr} {fd__law_whole : FuncData} (G__law_whole : FnOk P w K mg base CX0 1 f__law_whole fd__law_whole ["_law_found"] (spN K F__law_whole)) (b__law_whole : Binds K fd__law_whole ["_law_found"] []) (k__law_whole : PySem.W.keepIn K (.ref f__law_whole) = true) (m__law_whole : mg "_law_whole" = some (.ref f__law_whole)) {f__law_gcd : Addr} {fd__law_gcd : FuncData} (G__law_gcd : FnOk P w K mg base CX0 1 f__law_gcd fd__law_gcd ["_law_one", "_law_other"] (spN K F__law_gcd)) (b__law_gcd : Binds K fd__law_gcd ["_law_one", "_law_other"] []) (k__law_gcd : PySem.W.keepIn K (.ref f__law_gcd) = true) (m__law_gcd : mg "_law_gcd" = some (.ref f__law_gcd)) (z_isinstance : mg "isinstance" = none) (z_tuple : mg "tuple" = none) (z_len : mg "len" = none) : FnOk P w K mg base CX0 2 f fd ["_law_found", "_law_step_here"] (spN K F__law_same_way) :=
  fn_d F sc__law_same_way rfl rfl fun cdv A outer s H E hr =>
    (psd_cons (psd_asg (pd_var 1) (pgd_tup rfl (pgsd_cons (pgd_name 2 sc__law_same_way.nd) (pgsd_cons (pgd_name 3 sc__law_same_way.nd) pgsd_nil))))
      (psd_cons (psd_set 4 sc__law_same_way.nd (pd_op od_times (pd_ix (pd_var 2) pd_int (fun _ _ => rfl)) (pd_ix (pd_var 3) pd_int (fun _ _ => rfl))))
      (psd_cons (psd_set 5 sc__law_same_way.nd (pd_op od_times (pd_ix (pd_var 3) pd_int (fun _ _ => rfl)) (pd_ix (pd_var 2) pd_int (fun _ _ => rfl))))
      (psd_cons (psd_if ((pwd_or (ptd_not (ptd_val (pd_isinst "tuple" (by rfl) z_isinstance z_tuple (by rfl) (by rfl) (pd_var 0)))) (pwd_or (ptd_cmp (od_ne hr.units) (pd_callB cd_len (by rfl) z_len (by rfl) (pad_cons (pd_var 0) pad_nil)) pd_int (nomark _)) (pwd_or (ptd_not (ptd_val (pd_call G__law_whole (hr.mono (by decide)) m__law_whole k__law_whole b__law_whole (pad_cons (pd_ix (pd_var 0) pd_int (fun _ _ => rfl)) pad_nil)))) (pwd_or1 (ptd_not (ptd_val (pd_call G__law_whole (hr.mono (by decide)) m__law_whole k__law_whole b__law_whole (pad_cons (pd_ix (pd_var 0) pd_int (fun _ _ => rfl)) pad_nil))))))))).pt (psd_one (psd_ret pd_bl)) psd_nil)
      (psd_cons (psd_if ((pwd_or (ptd_cmp (od_ne hr.units) (pd_call G__law_gcd (hr.mono (by decide)) m__law_gcd k__law_gcd b__law_gcd (pad_cons (pd_ix (pd_var 0) pd_int (fun _ _ => rfl)) (pad_cons (pd_ix (pd_var 0) pd_int (fun _ _ => rfl)) pad_nil))) pd_int (nomark _)) (pwd_or1 (ptd_cmp (od_ne hr.units) (pd_op od_times (pd_ix (pd_var 0) pd_int (fun _ _ => rfl)) (pd_var 5)) (pd_op od_times (pd_ix (pd_var 0) pd_int (fun _ _ => rfl)) (pd_var 4)) (nomark _))))).pt (psd_one (psd_ret pd_bl)) psd_nil)
      (psd_one (psd_ret (pd_cmp od_gt (pd_op od_plus (pd_op od_times (pd_ix (pd_var 0) pd_int (fun _ _ => rfl)) (pd_var 4)) (pd_op od_times (pd_ix (pd_var 0) pd_int (fun _ _ => rfl)) (pd_var 5))) pd_int (nomark _)))))))))
noncomputable def F__law_place : List D → M S := fnD 1 3
    (sSeq (sAsg (eVar 0) (gTupD 2 (gsCons (gNm 1) (gsCons (gNm 2) gsNil))))
      (sSeq (sSet 3 (eLst (aCons (eAnd (eOp gGt (eVar 1) (eC (.int 0))) (eOp gGe (eVar 2) (eC (.int 0)))) (aCons (eAnd (eOp gGt (eVar 2) (eC (.int 0))) (eOp gLe (eVar 1) (eC (.int 0)))) (aCons (eAnd (eOp gLt (eVar 1) (eC (.int 0))) (eOp gLe (eVar 2) (eC (.int 0)))) (aCons (eC (.bl true)) aNil))))))
      (sRet (eIndexT (eVar 3)))))
theorem sc__law_place : FnScope ["_law_way", "_law_p", "_law_q", "_law_quarters"] ["_law_way"] (defScope s__law_place) := ⟨rfl, rfl, rfl, by decide +kernel, rfl, by decide +kernel, by decide +kernel⟩
theorem ok__law_place {f : Addr} {fd : FuncData} (F : Fun K "_law_place" "_law_place" s__law_place f fd)  : FnOk P w K mg base CX0 1 f fd ["_law_way"] (spN K F__law_place) :=
  fn_d F sc__law_place rfl rfl fun cdv A outer s H E hr =>
    (psd_cons (psd_asg (pd_var 0) (pgd_tup rfl (pgsd_cons (pgd_name 1 sc__law_place.nd) (pgsd_cons (pgd_name 2 sc__law_place.nd) pgsd_nil))))
      (psd_cons (psd_set 3 sc__law_place.nd (pd_lst (pad_cons (pd_and (pd_cmp od_gt (pd_var 1) pd_int (nomark _)) (pd_one (pd_cmp od_ge (pd_var 2) pd_int (nomark _)))) (pad_cons (pd_and (pd_cmp od_gt (pd_var 2) pd_int (nomark _)) (pd_one (pd_cmp od_le (pd_var 1) pd_int (nomark _)))) (pad_cons (pd_and (pd_cmp od_lt (pd_var 1) pd_int (nomark _)) (pd_one (pd_cmp od_le (pd_var 2) pd_int (nomark _)))) (pad_cons pd_bl pad_nil))))))
      (psd_one (psd_ret (pd_indexT (pd_var 3))))))
noncomputable def F__law_sooner : List D → M S := fnD 2 0
    (sSeq (sIf (tB (eOp gNe (eCall F__law_place (aCons (eVar 0) aNil)) (eCall F__law_place (aCons (eVar 1) aNil)))) (sRet (eOp gLt (eCall F__law_place (aCons (eVar 0) aNil)) (eCall F__law_place (aCons (eVar 1) aNil)))) sNil)
      (sRet (eOp gGt (eOp gTimes (eOp gIx (eVar 0) (eC (.int 0))) (eOp gIx (eVar 1) (eC (.int 1)))) (eOp gTimes (eOp gIx (eVar 0) (eC (.int 1))) (eOp gIx (eVar 1) (eC (.int 0)))))))
theorem sc__law_sooner : FnScope ["_law_one", "_law_other"] ["_law_one", "_law_other"] (defScope s__law_sooner) := ⟨rfl, rfl, rfl, by decide +kernel, rfl, by decide +kernel, by decide +kernel⟩
theorem ok__law_sooner {f : Addr} {fd : FuncData} (F : Fun K "_law_sooner" "_law_sooner" s__law_sooner f fd) {f__law_place : Addr} {fd__law_place : FuncData} (G__law_place : FnOk P w K mg base CX0 1 f__law_place fd__law_place ["_law_way"] (spN K F__law_place)) (b__law_place : Binds K fd__law_place ["_law_way"] []) (k__law_place : PySem.W.keepIn K (.ref f__law_place) = true) (m__law_place : mg "_law_place" = some (.ref f__law_place)) : FnOk P w K mg base CX0 2 f fd ["_law_one", "_law_other"] (spN K F__law_sooner) :=
  fn_d F sc__law_sooner rfl rfl fun cdv A outer s H E hr =>
    (psd_cons (psd_if (ptd_cmp (od_ne hr.units) (pd_call G__law_place (hr.mono (by decide)) m__law_place k__law_place b__law_place (pad_cons (pd_var 0) pad_nil)) (pd_call G__law_place (hr.mono (by decide)) m__law_place k__law_place b__law_place (pad_cons (pd_var 1) pad_nil)) (nomark _)) (psd_one (psd_ret (pd_cmp od_lt (pd_call G__law_place (hr.mono (by decide)) m__law_place k__law_place b__law_place (pad_cons (pd_var 0) pad_nil)) (pd_call G__law_place (hr.mono (by decide)) m__law_place k__law_place b__law_place (pad_cons (pd_var 1) pad_nil)) (nomark _)))) psd_nil)
      (psd_one (psd_ret (pd_cmp od_gt (pd_op od_times (pd_ix (pd_var 0) pd_int (fun _ _ => rfl)) (pd_ix (pd_var 1) pd_int (fun _ _ => rfl))) (pd_op od_times (pd_ix (pd_var 0) pd_int (fun _ _ => rfl)) (pd_ix (pd_var 1) pd_int (fun _ _ => rfl))) (nomark _)))))
noncomputable def F_law : List D → M S := fnD 1 11
    (sSeq (sOwn 1 (fLst aNil))
      (sSeq (sFor (iSeq (eSl (eVar 0) oNone (oSome (eC (.int 60))))) (gNm 2) (sSeq (sSet 3 (eCall F__law_step (aCons (eVar 2) aNil)))
      (sSeq (sAsg (eVar 3) (gTupD 2 (gsCons (gTupD 2 (gsCons (gNm 4) (gsCons (gNm 5) gsNil))) (gsCons (gTupD 2 (gsCons (gNm 6) (gsCons (gNm 7) gsNil))) gsNil))))
      (sFor (iSeq (eLst (aCons (eVar 3) (aCons (eTup (aCons (eTup (aCons (eOp gSub (eC (.int 0)) (eVar 4)) (aCons (eVar 5) aNil))) (aCons (eTup (aCons (eOp gSub (eC (.int 0)) (eVar 6)) (aCons (eVar 7) aNil))) aNil))) (aCons (eTup (aCons (eCall F__law_lowest (aCons (eVar 4) (aCons (eOp gTimes (eC (.int 2)) (eVar 5)) aNil))) (aCons (eCall F__law_lowest (aCons (eVar 6) (aCons (eOp gTimes (eC (.int 2)) (eVar 7)) aNil))) aNil))) aNil))))) (gNm 8) (sSeq (sSet 9 (eCall F_direction (aCons (eVar 8) aNil)))
      (sSeq (sIf (tN (tB (eCall F__law_same_way (aCons (eVar 9) (aCons (eVar 8) aNil))))) (sRet (eC (.bl false))) sNil)
      (sApp 1 (eVar 9))))))))
      (sFrz 1 (sSeq (sSet 10 (eCB bList (aCons (eVar 1) aNil)))
      (sSeq (sOwn 9 (fCall F_in_turn (aCons (eVar 10) aNil)))
      (sSeq (sIf (tView 9 (tO (tB (eOp gNe (eVar 10) (eVar 1))) (tO (tN (tB (eIs "list" (eVar 9)))) (tB (eOp gNe (eCB bLen (aCons (eVar 9) aNil)) (eLenSet (eVar 1))))))) (sRet (eC (.bl false))) sNil)
      (sSeq (sSet 11 (eNew (fCopyO 9)))
      (sSeq (sApp 9 (eTup (aCons (eC (.int 0)) (aCons (eC (.int 0)) aNil))))
      (sSeq (sIf (tO (tB (eOp gNe (eVar 10) (eVar 1))) (tB (eOp gNe (eCall F_in_turn (aCons (eVar 10) aNil)) (eVar 11)))) (sRet (eC (.bl false))) sNil)
      (sSeq (sIf (tO (tN (tB (eCB bAll (aCons (eNew (fComp (iSeq (eVar 1)) 1 [11] (gNm 0) (eOp gIn (eVar 0) (eVar 1)))) aNil)))) (tN (tB (eCB bAll (aCons (eNew (fComp (iSeq (eVar 11)) 1 [1] (gNm 0) (eOp gIn (eVar 0) (eVar 1)))) aNil))))) (sRet (eC (.bl false))) sNil)
      (sRet (eCB bAll (aCons (eNew (fComp (iRange1 (aCons (eOp gSub (eCB bLen (aCons (eVar 11) aNil)) (eC (.int 1))) aNil)) 1 [11] (gNm 0) (eCall F__law_sooner (aCons (eOp gIx (eVar 1) (eVar 0)) (aCons (eOp gIx (eVar 1) (eOp gPlus (eVar 0) (eC (.int 1)))) aNil))))) aNil)))))))))))))
theorem sc_law : FnScope ["_law_script", "_law_some", "_law_cell_here", "_law_step_here", "_law_a", "_law_b", "_law_c", "_law_d", "_law_other", "_law_found", "_law_handed", "_law_told"] ["_law_script"] (defScope s_law) := ⟨rfl, rfl, rfl, by decide +kernel, rfl, by decide +kernel, by decide +kernel⟩
theorem ok_law {f Pt : Addr} {fd : FuncData} (F : Fun K "law" "law" s_law f fd) {f__law_step : Addr} {fd__law_step : FuncData} (G__law_step : FnOk P w K mg base CX0 3 f__law_step fd__law_step ["_law_cell_here"] (spN K F__law_step)) (b__law_step : Binds K fd__law_step ["_law_cell_here"] []) (k__law_step : PySem.W.keepIn K (.ref f__law_step) = true) (m__law_step : mg "_law_step" = some (.ref f__law_step)) {f__law_lowest : Addr} {fd__law_lowest : FuncData} (G__law_lowest : FnOk P w K mg base CX0 2 f__law_lowest fd__law_lowest ["_law_top", "_law_bottom"] (spN K F__law_lowest)) (b__law_lowest : Binds K fd__law_lowest ["_law_top", "_law_bottom"] []) (k__law_lowest : PySem.W.keepIn K (.ref f__law_lowest) = true) (m__law_lowest : mg "_law_lowest" = some (.ref f__law_lowest)) {f_direction : Addr} {fd_direction : FuncData} (G_direction : FnOk P w K mg base CX0 2 f_direction fd_direction ["step"] (spN K F_direction)) (b_direction : Binds K fd_direction ["step"] []) (k_direction : PySem.W.keepIn K (.ref f_direction) = true) (m_direction : mg "direction" = some (.ref f_direction)) {f__law_same_way : Addr} {fd__law_same_way : FuncData} (G__law_same_way : FnOk P w K mg base CX0 2 f__law_same_way fd__law_same_way ["_law_found", "_law_step_here"] (spN K F__law_same_way)) (b__law_same_way : Binds K fd__law_same_way ["_law_found", "_law_step_here"] []) (k__law_same_way : PySem.W.keepIn K (.ref f__law_same_way) = true) (m__law_same_way : mg "_law_same_way" = some (.ref f__law_same_way)) {f_in_turn : Addr} {fd_in_turn : FuncData} (G_in_turn : FnOk P w K mg base CX0 6 f_in_turn fd_in_turn ["directions"] (spT K Pt tL tC tQ F_in_turn)) (b_in_turn : Binds K fd_in_turn ["directions"] []) (k_in_turn : PySem.W.keepIn K (.ref f_in_turn) = true) (m_in_turn : mg "in_turn" = some (.ref f_in_turn)) {f__law_sooner : Addr} {fd__law_sooner : FuncData} (G__law_sooner : FnOk P w K mg base CX0 2 f__law_sooner fd__law_sooner ["_law_one", "_law_other"] (spN K F__law_sooner)) (b__law_sooner : Binds K fd__law_sooner ["_law_one", "_law_other"] []) (k__law_sooner : PySem.W.keepIn K (.ref f__law_sooner) = true) (m__law_sooner : mg "_law_sooner" = some (.ref f__law_sooner)) (z_list : mg "list" = none) (z_isinstance : mg "isinstance" = none) (z_len : mg "len" = none) (z_set : mg "set" = none) (z_all : mg "all" = none) (z_range : mg "range" = none) : FnOk P w K mg base CX0 7 f fd ["_law_script"] (spT K Pt tL tC tQ F_law) :=
  fn_dT F sc_law rfl rfl fun cdv A outer s H E hr hT =>
    (psd_cons (psd_own 1 sc_law.nd (pfd_lst pad_nil))
      (psd_cons (psd_for PassesOwn.never rfl (pid_seq (pd_slice (pd_var 0) pod_none (pod_some pd_int))) (pgd_name 2 sc_law.nd) (psd_cons (psd_set 3 sc_law.nd (pd_call G__law_step (hr.mono (by decide)) m__law_step k__law_step b__law_step (pad_cons (pd_var 2) pad_nil)))
      (psd_cons (psd_asg (pd_var 3) (pgd_tup rfl (pgsd_cons (pgd_tup rfl (pgsd_cons (pgd_name 4 sc_law.nd) (pgsd_cons (pgd_name 5 sc_law.nd) pgsd_nil))) (pgsd_cons (pgd_tup rfl (pgsd_cons (pgd_name 6 sc_law.nd) (pgsd_cons (pgd_name 7 sc_law.nd) pgsd_nil))) pgsd_nil))))
      (psd_one (psd_for PassesOwn.never rfl (pid_seq (pd_lst (pad_cons (pd_var 3) (pad_cons (pd_tup (pad_cons (pd_tup (pad_cons (pd_op od_sub pd_int (pd_var 4)) (pad_cons (pd_var 5) pad_nil))) (pad_cons (pd_tup (pad_cons (pd_op od_sub pd_int (pd_var 6)) (pad_cons (pd_var 7) pad_nil))) pad_nil))) (pad_cons (pd_tup (pad_cons (pd_call G__law_lowest (hr.mono (by decide)) m__law_lowest k__law_lowest b__law_lowest (pad_cons (pd_var 4) (pad_cons (pd_op od_times pd_int (pd_var 5)) pad_nil))) (pad_cons (pd_call G__law_lowest (hr.mono (by decide)) m__law_lowest k__law_lowest b__law_lowest (pad_cons (pd_var 6) (pad_cons (pd_op od_times pd_int (pd_var 7)) pad_nil))) pad_nil))) pad_nil))))) (pgd_name 8 sc_law.nd) (psd_cons (psd_set 9 sc_law.nd (pd_call G_direction (hr.mono (by decide)) m_direction k_direction b_direction (pad_cons (pd_var 8) pad_nil)))
      (psd_cons (psd_if (ptd_not (ptd_val (pd_call G__law_same_way (hr.mono (by decide)) m__law_same_way k__law_same_way b__law_same_way (pad_cons (pd_var 9) (pad_cons (pd_var 8) pad_nil))))) (psd_one (psd_ret pd_bl)) psd_nil)
      (psd_one (psd_app 1 (pd_var 9))))))))))
      (psd_frz 1 (psd_cons (psd_set 10 sc_law.nd (pd_callT cd_list (by rfl) z_list (by rfl) (pad_cons (pd_var 1) pad_nil)))
      (psd_cons (psd_own 9 sc_law.nd (pfd_callTb G_in_turn hT (hr.mono (by decide)) m_in_turn k_in_turn b_in_turn (pad_cons (pd_var 10) pad_nil)))
      (psd_cons (psd_if (ptd_view 9 ((pwd_or (ptd_cmp (od_ne hr.units) (pd_var 10) (pd_var 1) (nomark _)) (pwd_or (ptd_not (ptd_val (pd_isinst "list" (by rfl) z_isinstance z_list (by rfl) (by rfl) (pd_var 9)))) (pwd_or1 (ptd_cmp (od_ne hr.units) (pd_callB cd_len (by rfl) z_len (by rfl) (pad_cons (pd_var 9) pad_nil)) (pd_lenset rfl hr.units (by rfl) z_len (by rfl) (by rfl) z_set (by rfl) (pd_var 1)) (nomark _)))))).pt) (psd_one (psd_ret pd_bl)) psd_nil)
      (psd_cons (psd_set 11 sc_law.nd (pd_new (pfd_copyO 9 (by rfl) z_list (by rfl))))
      (psd_cons (psd_app 9 (pd_tup (pad_cons pd_int (pad_cons pd_int pad_nil))))
      (psd_cons (psd_if ((pwd_or (ptd_cmp (od_ne hr.units) (pd_var 10) (pd_var 1) (nomark _)) (pwd_or1 (ptd_cmp (od_ne hr.units) (pd_callTb G_in_turn hT (hr.mono (by decide)) m_in_turn k_in_turn b_in_turn (pad_cons (pd_var 10) pad_nil)) (pd_var 11) (nomark _))))).pt (psd_one (psd_ret pd_bl)) psd_nil)
      (psd_cons (psd_if ((pwd_or (ptd_not (ptd_val (pd_callB (cd_all rfl) (by rfl) z_all (by rfl) (pad_cons (pd_new (pfd_comp (Nc := ["_law_way", "_law_told"]) rfl (closure_eq (fun y hy hf => cell_has (capF (sc := defScope s_law) (by decide +kernel) y hy hf))) (capN (sc := defScope s_law) rfl rfl (by decide +kernel) (capF (by decide +kernel)) (fun y hy hf => cell_has (capF (sc := defScope s_law) (by decide +kernel) y hy hf)) rfl (capB_ok (N := ["_law_script", "_law_some", "_law_cell_here", "_law_step_here", "_law_a", "_law_b", "_law_c", "_law_d", "_law_other", "_law_found", "_law_handed", "_law_told"]) rfl (by decide +kernel))) rfl (by decide +kernel) (by decide +kernel) (keep_name (by decide)) (pid_seq (pd_var 1)) (fun s3 H3 C ex => pgd_name 0 (show (["_law_way", "_law_told"] : List Str).Nodup by decide +kernel)) (fun s3 H3 C ex => (pd_cmp (od_in (by exact hr.units)) (pd_var 0) (pd_var 1) (by with_unfolding_all rfl))))) pad_nil)))) (pwd_or1 (ptd_not (ptd_val (pd_callB (cd_all rfl) (by rfl) z_all (by rfl) (pad_cons (pd_new (pfd_comp (Nc := ["_law_way", "_law_some"]) rfl (closure_eq (fun y hy hf => cell_has (capF (sc := defScope s_law) (by decide +kernel) y hy hf))) (capN (sc := defScope s_law) rfl rfl (by decide +kernel) (capF (by decide +kernel)) (fun y hy hf => cell_has (capF (sc := defScope s_law) (by decide +kernel) y hy hf)) rfl (capB_ok (N := ["_law_script", "_law_some", "_law_cell_here", "_law_step_here", "_law_a", "_law_b", "_law_c", "_law_d", "_law_other", "_law_found", "_law_handed", "_law_told"]) rfl (by decide +kernel))) rfl (by decide +kernel) (by decide +kernel) (keep_name (by decide)) (pid_seq (pd_var 11)) (fun s3 H3 C ex => pgd_name 0 (show (["_law_way", "_law_some"] : List Str).Nodup by decide +kernel)) (fun s3 H3 C ex => (pd_cmp (od_in (by exact hr.units)) (pd_var 0) (pd_var 1) (by with_unfolding_all rfl))))) pad_nil))))))).pt (psd_one (psd_ret pd_bl)) psd_nil)
      (psd_one (psd_ret (pd_callB (cd_all rfl) (by rfl) z_all (by rfl) (pad_cons (pd_new (pfd_comp (Nc := ["_law_k", "_law_told"]) rfl (closure_eq (fun y hy hf => cell_has (capF (sc := defScope s_law) (by decide +kernel) y hy hf))) (capN (sc := defScope s_law) rfl rfl (by decide +kernel) (capF (by decide +kernel)) (fun y hy hf => cell_has (capF (sc := defScope s_law) (by decide +kernel) y hy hf)) rfl (capB_ok (N := ["_law_script", "_law_some", "_law_cell_here", "_law_step_here", "_law_a", "_law_b", "_law_c", "_law_d", "_law_other", "_law_found", "_law_handed", "_law_told"]) rfl (by decide +kernel))) rfl (by decide +kernel) (by decide +kernel) (keep_name (by decide)) (pid_range1 (by rfl) z_range (pad_cons (pd_op od_sub (pd_callB cd_len (by rfl) z_len (by rfl) (pad_cons (pd_var 11) pad_nil)) pd_int) pad_nil)) (fun s3 H3 C ex => pgd_name 0 (show (["_law_k", "_law_told"] : List Str).Nodup by decide +kernel)) (fun s3 H3 C ex => (pd_call G__law_sooner (hr.mono (by decide)) m__law_sooner k__law_sooner b__law_sooner (pad_cons (pd_ix (pd_var 1) (pd_var 0) (fun _ _ => rfl)) (pad_cons (pd_ix (pd_var 1) (pd_op od_plus (pd_var 0) pd_int) (fun _ _ => rfl)) pad_nil)))))) pad_nil))))))))))))))
end
theorem all_mk {l : PySem.W.OpenLaw} {w : World} {K : PySem.W.Frag} {h : Heap} {mg : Str → Option Value} {fa f0 f1 f2 f3 f4 f5 f6 f7 f8 f9 f10 f11 f12 f13 : Addr} (X : K.In h) (G : h.Ns mainGlobals mg) (hfa : mg "law" = some (.ref fa))
    {od0 an0 od1 an1 od2 an2 od3 an3 od4 an4 od5 an5 od6 an6 od7 an7 od8 an8 od9 an9 od10 an10 od11 an11 od12 an12 od13 an13 : Option Addr} {sl0 sl1 sl2 sl3 sl4 sl5 sl6 sl7 sl8 sl9 sl10 sl11 sl12 sl13 : Array (Option Value)} {oc0 kV0 dc0 pm0 cd0 ct0 oc1 kV1 dc1 pm1 cd1 ct1 oc2 kV2 dc2 pm2 cd2 ct2 oc3 kV3 dc3 pm3 cd3 ct3 oc4 kV4 dc4 pm4 ct4 oc5 kV5 dc5 pm5 cd5 ct5 oc6 kV6 dc6 pm6 cd6 ct6 oc7 kV7 dc7 pm7 cd7 ct7 oc8 kV8 dc8 pm8 cd8 ct8 oc9 kV9 dc9 pm9 cd9 ct9 oc10 kV10 dc10 pm10 cd10 ct10 oc11 kV11 dc11 pm11 cd11 ct11 oc12 kV12 dc12 pm12 cd12 ct12 oc13 kV13 dc13 pm13 cd13 ct13 : Value}
    {cT Pt : Addr}
    (a0 : PySem.W.nsIn K mainGlobals "common_divisor" = some (some (.ref f0))) (l0 : K.lookup f0 = some ⟨oc0, od0, .func (PySem.W.fnOf "common_divisor" "common_divisor" (defArgs s_common_divisor) (defBody s_common_divisor) (defScope s_common_divisor) .none kV0 dc0 pm0 an0 cd0 ct0), sl0⟩) (c0 : PySem.W.codeIn K cd0 "common_divisor" = true) (k0 : PySem.W.keepIn K (.ref f0) = true)
    (a1 : PySem.W.nsIn K mainGlobals "direction" = some (some (.ref f1))) (l1 : K.lookup f1 = some ⟨oc1, od1, .func (PySem.W.fnOf "direction" "direction" (defArgs s_direction) (defBody s_direction) (defScope s_direction) .none kV1 dc1 pm1 an1 cd1 ct1), sl1⟩) (c1 : PySem.W.codeIn K cd1 "direction" = true) (k1 : PySem.W.keepIn K (.ref f1) = true)
    (a2 : PySem.W.nsIn K mainGlobals "quarter" = some (some (.ref f2))) (l2 : K.lookup f2 = some ⟨oc2, od2, .func (PySem.W.fnOf "quarter" "quarter" (defArgs s_quarter) (defBody s_quarter) (defScope s_quarter) .none kV2 dc2 pm2 an2 cd2 ct2), sl2⟩) (c2 : PySem.W.codeIn K cd2 "quarter" = true) (k2 : PySem.W.keepIn K (.ref f2) = true)
    (a3 : PySem.W.nsIn K mainGlobals "place_in_turn" = some (some (.ref f3))) (l3 : K.lookup f3 = some ⟨oc3, od3, .func (PySem.W.fnOf "place_in_turn" "place_in_turn" (defArgs s_place_in_turn) (defBody s_place_in_turn) (defScope s_place_in_turn) .none kV3 dc3 pm3 an3 cd3 ct3), sl3⟩) (c3 : PySem.W.codeIn K cd3 "place_in_turn" = true) (k3 : PySem.W.keepIn K (.ref f3) = true)
    (a4 : PySem.W.nsIn K mainGlobals "in_turn" = some (some (.ref f4))) (l4 : K.lookup f4 = some ⟨oc4, od4, .func (PySem.W.fnOf "in_turn" "in_turn" (defArgs s_in_turn) (defBody s_in_turn) (defScope s_in_turn) .none kV4 dc4 pm4 an4 (.ref cT) ct4), sl4⟩) (c4 : PySem.W.codeIn K (.ref cT) "in_turn" = true) (k4 : PySem.W.keepIn K (.ref f4) = true)
    (a5 : PySem.W.nsIn K mainGlobals "_law_numbers" = some (some (.ref f5))) (l5 : K.lookup f5 = some ⟨oc5, od5, .func (PySem.W.fnOf "_law_numbers" "_law_numbers" (defArgs s__law_numbers) (defBody s__law_numbers) (defScope s__law_numbers) .none kV5 dc5 pm5 an5 cd5 ct5), sl5⟩) (c5 : PySem.W.codeIn K cd5 "_law_numbers" = true) (k5 : PySem.W.keepIn K (.ref f5) = true)
    (a6 : PySem.W.nsIn K mainGlobals "_law_gcd" = some (some (.ref f6))) (l6 : K.lookup f6 = some ⟨oc6, od6, .func (PySem.W.fnOf "_law_gcd" "_law_gcd" (defArgs s__law_gcd) (defBody s__law_gcd) (defScope s__law_gcd) .none kV6 dc6 pm6 an6 cd6 ct6), sl6⟩) (c6 : PySem.W.codeIn K cd6 "_law_gcd" = true) (k6 : PySem.W.keepIn K (.ref f6) = true)
    (a7 : PySem.W.nsIn K mainGlobals "_law_lowest" = some (some (.ref f7))) (l7 : K.lookup f7 = some ⟨oc7, od7, .func (PySem.W.fnOf "_law_lowest" "_law_lowest" (defArgs s__law_lowest) (defBody s__law_lowest) (defScope s__law_lowest) .none kV7 dc7 pm7 an7 cd7 ct7), sl7⟩) (c7 : PySem.W.codeIn K cd7 "_law_lowest" = true) (k7 : PySem.W.keepIn K (.ref f7) = true)
    (a8 : PySem.W.nsIn K mainGlobals "_law_whole" = some (some (.ref f8))) (l8 : K.lookup f8 = some ⟨oc8, od8, .func (PySem.W.fnOf "_law_whole" "_law_whole" (defArgs s__law_whole) (defBody s__law_whole) (defScope s__law_whole) .none kV8 dc8 pm8 an8 cd8 ct8), sl8⟩) (c8 : PySem.W.codeIn K cd8 "_law_whole" = true) (k8 : PySem.W.keepIn K (.ref f8) = true)
    (a9 : PySem.W.nsIn K mainGlobals "_law_step" = some (some (.ref f9))) (l9 : K.lookup f9 = some ⟨oc9, od9, .func (PySem.W.fnOf "_law_step" "_law_step" (defArgs s__law_step) (defBody s__law_step) (defScope s__law_step) .none kV9 dc9 pm9 an9 cd9 ct9), sl9⟩) (c9 : PySem.W.codeIn K cd9 "_law_step" = true) (k9 : PySem.W.keepIn K (.ref f9) = true)
    (a10 : PySem.W.nsIn K mainGlobals "_law_same_way" = some (some (.ref f10))) (l10 : K.lookup f10 = some ⟨oc10, od10, .func (PySem.W.fnOf "_law_same_way" "_law_same_way" (defArgs s__law_same_way) (defBody s__law_same_way) (defScope s__law_same_way) .none kV10 dc10 pm10 an10 cd10 ct10), sl10⟩) (c10 : PySem.W.codeIn K cd10 "_law_same_way" = true) (k10 : PySem.W.keepIn K (.ref f10) = true)
    (a11 : PySem.W.nsIn K mainGlobals "_law_place" = some (some (.ref f11))) (l11 : K.lookup f11 = some ⟨oc11, od11, .func (PySem.W.fnOf "_law_place" "_law_place" (defArgs s__law_place) (defBody s__law_place) (defScope s__law_place) .none kV11 dc11 pm11 an11 cd11 ct11), sl11⟩) (c11 : PySem.W.codeIn K cd11 "_law_place" = true) (k11 : PySem.W.keepIn K (.ref f11) = true)
    (a12 : PySem.W.nsIn K mainGlobals "_law_sooner" = some (some (.ref f12))) (l12 : K.lookup f12 = some ⟨oc12, od12, .func (PySem.W.fnOf "_law_sooner" "_law_sooner" (defArgs s__law_sooner) (defBody s__law_sooner) (defScope s__law_sooner) .none kV12 dc12 pm12 an12 cd12 ct12), sl12⟩) (c12 : PySem.W.codeIn K cd12 "_law_sooner" = true) (k12 : PySem.W.keepIn K (.ref f12) = true)
    (a13 : PySem.W.nsIn K mainGlobals "law" = some (some (.ref f13))) (l13 : K.lookup f13 = some ⟨oc13, od13, .func (PySem.W.fnOf "law" "law" (defArgs s_law) (defBody s_law) (defScope s_law) .none kV13 dc13 pm13 an13 cd13 ct13), sl13⟩) (c13 : PySem.W.codeIn K cd13 "law" = true) (k13 : PySem.W.keepIn K (.ref f13) = true)
    (hKP : K.lookup Pt = none) (hC : PySem.W.codeHdIn K cT Pt = true)
    (z_abs : PySem.W.nsIn K mainGlobals "abs" = some none)
    (z_max : PySem.W.nsIn K mainGlobals "max" = some none)
    (z_sorted : PySem.W.nsIn K mainGlobals "sorted" = some none)
    (z_list : PySem.W.nsIn K mainGlobals "list" = some none)
    (z_range : PySem.W.nsIn K mainGlobals "range" = some none)
    (z_int : PySem.W.nsIn K mainGlobals "int" = some none)
    (z_isinstance : PySem.W.nsIn K mainGlobals "isinstance" = some none)
    (z_bool : PySem.W.nsIn K mainGlobals "bool" = some none)
    (z_tuple : PySem.W.nsIn K mainGlobals "tuple" = some none)
    (z_len : PySem.W.nsIn K mainGlobals "len" = some none)
    (z_set : PySem.W.nsIn K mainGlobals "set" = some none)
    (z_all : PySem.W.nsIn K mainGlobals "all" = some none)
    : ∃ (fd : FuncData) (cT : Addr), K.lookup Pt = none ∧ PySem.W.codeHdIn K cT Pt = true ∧ (∀ (s : Shared) (v : Value), BindsTo s fd ⟨[v], []⟩ [("_law_script", v)]) ∧ ∀ base : Heap, K.In base → base.Ns mainGlobals mg → BltAt mg base → FnOk l.prog w K mg base CX0 7 fa fd ["_law_script"] (spT K Pt tL tC tQ F_law) := by
  have e := hfa.symm.trans (PySem.W.mg_of X G a13)
  cases e
  have F0 := fun_mk (st := s_common_divisor) l0 c0 k0
  have b0 := F0.binds (ps := ["one", "other"]) fun _ _ _ _ _ _ us hl => match us, hl with | [_, _], _ => rfl
  have F1 := fun_mk (st := s_direction) l1 c1 k1
  have b1 := F1.binds (ps := ["step"]) fun _ _ _ _ _ _ us hl => match us, hl with | [_], _ => rfl
  have F2 := fun_mk (st := s_quarter) l2 c2 k2
  have b2 := F2.binds (ps := ["way"]) fun _ _ _ _ _ _ us hl => match us, hl with | [_], _ => rfl
  have F3 := fun_mk (st := s_place_in_turn) l3 c3 k3
  have b3 := F3.binds (ps := ["way", "scale"]) fun _ _ _ _ _ _ us hl => match us, hl with | [_, _], _ => rfl
  have F4 := fun_mk (st := s_in_turn) l4 c4 k4
  have b4 := F4.binds (ps := ["directions"]) fun _ _ _ _ _ _ us hl => match us, hl with | [_], _ => rfl
  have F5 := fun_mk (st := s__law_numbers) l5 c5 k5
  have b5 := F5.binds (ps := ["_law_cell_here", "_law_many"]) fun _ _ _ _ _ _ us hl => match us, hl with | [_, _], _ => rfl
  have F6 := fun_mk (st := s__law_gcd) l6 c6 k6
  have b6 := F6.binds (ps := ["_law_one", "_law_other"]) fun _ _ _ _ _ _ us hl => match us, hl with | [_, _], _ => rfl
  have F7 := fun_mk (st := s__law_lowest) l7 c7 k7
  have b7 := F7.binds (ps := ["_law_top", "_law_bottom"]) fun _ _ _ _ _ _ us hl => match us, hl with | [_, _], _ => rfl
  have F8 := fun_mk (st := s__law_whole) l8 c8 k8
  have b8 := F8.binds (ps := ["_law_found"]) fun _ _ _ _ _ _ us hl => match us, hl with | [_], _ => rfl
  have F9 := fun_mk (st := s__law_step) l9 c9 k9
  have b9 := F9.binds (ps := ["_law_cell_here"]) fun _ _ _ _ _ _ us hl => match us, hl with | [_], _ => rfl
  have F10 := fun_mk (st := s__law_same_way) l10 c10 k10
  have b10 := F10.binds (ps := ["_law_found", "_law_step_here"]) fun _ _ _ _ _ _ us hl => match us, hl with | [_, _], _ => rfl
  have F11 := fun_mk (st := s__law_place) l11 c11 k11
  have b11 := F11.binds (ps := ["_law_way"]) fun _ _ _ _ _ _ us hl => match us, hl with | [_], _ => rfl
  have F12 := fun_mk (st := s__law_sooner) l12 c12 k12
  have b12 := F12.binds (ps := ["_law_one", "_law_other"]) fun _ _ _ _ _ _ us hl => match us, hl with | [_, _], _ => rfl
  have F13 := fun_mk (st := s_law) l13 c13 k13
  refine ⟨PySem.W.fnOf "law" "law" (defArgs s_law) (defBody s_law) (defScope s_law) .none kV13 dc13 pm13 an13 cd13 ct13, cT, hKP, hC, fun s v => .of_eq rfl, fun base _ _ hB => ?_⟩
  have g0 := ok_common_divisor (P := l.prog) (w := w) (mg := mg) (base := base) F0 (PySem.W.mg_none_of X G z_abs)
  have g1 := ok_direction (P := l.prog) (w := w) (mg := mg) (base := base) F1 g0 b0 k0 (PySem.W.mg_of X G a0)
  have g2 := ok_quarter (P := l.prog) (w := w) (mg := mg) (base := base) F2 
  have g3 := ok_place_in_turn (P := l.prog) (w := w) (mg := mg) (base := base) F3 g2 b2 k2 (PySem.W.mg_of X G a2) (PySem.W.mg_none_of X G z_abs)
  have g4 := ok_in_turn (P := l.prog) (w := w) (mg := mg) (base := base) l4 c4 hC hB g3 b3 k3 (PySem.W.mg_of X G a3) (PySem.W.mg_none_of X G z_abs) (PySem.W.mg_none_of X G z_max) (PySem.W.mg_none_of X G z_sorted) (PySem.W.mg_none_of X G z_list)
  have g5 := ok__law_numbers (P := l.prog) (w := w) (mg := mg) (base := base) F5 (PySem.W.mg_none_of X G z_abs) (PySem.W.mg_none_of X G z_range) (PySem.W.mg_none_of X G z_int)
  have g6 := ok__law_gcd (P := l.prog) (w := w) (mg := mg) (base := base) F6 (PySem.W.mg_none_of X G z_abs) (PySem.W.mg_none_of X G z_sorted)
  have g7 := ok__law_lowest (P := l.prog) (w := w) (mg := mg) (base := base) F7 g6 b6 k6 (PySem.W.mg_of X G a6)
  have g8 := ok__law_whole (P := l.prog) (w := w) (mg := mg) (base := base) F8 (PySem.W.mg_none_of X G z_isinstance) (PySem.W.mg_none_of X G z_int) (PySem.W.mg_none_of X G z_bool)
  have g9 := ok__law_step (P := l.prog) (w := w) (mg := mg) (base := base) F9 g5 b5 k5 (PySem.W.mg_of X G a5) g7 b7 k7 (PySem.W.mg_of X G a7)
  have g10 := ok__law_same_way (P := l.prog) (w := w) (mg := mg) (base := base) F10 g8 b8 k8 (PySem.W.mg_of X G a8) g6 b6 k6 (PySem.W.mg_of X G a6) (PySem.W.mg_none_of X G z_isinstance) (PySem.W.mg_none_of X G z_tuple) (PySem.W.mg_none_of X G z_len)
  have g11 := ok__law_place (P := l.prog) (w := w) (mg := mg) (base := base) F11 
  have g12 := ok__law_sooner (P := l.prog) (w := w) (mg := mg) (base := base) F12 g11 b11 k11 (PySem.W.mg_of X G a11)
  exact ok_law (P := l.prog) (w := w) (mg := mg) (base := base) F13 g9 b9 k9 (PySem.W.mg_of X G a9) g7 b7 k7 (PySem.W.mg_of X G a7) g1 b1 k1 (PySem.W.mg_of X G a1) g10 b10 k10 (PySem.W.mg_of X G a10) g4 b4 k4 (PySem.W.mg_of X G a4) g12 b12 k12 (PySem.W.mg_of X G a12) (PySem.W.mg_none_of X G z_list) (PySem.W.mg_none_of X G z_isinstance) (PySem.W.mg_none_of X G z_len) (PySem.W.mg_none_of X G z_set) (PySem.W.mg_none_of X G z_all) (PySem.W.mg_none_of X G z_range)
theorem reps_ints {K : PySem.W.Frag} {H : Hp} : ∀ ns : List Int, Reps K H (ns.map D.int) (ns.map V.int)
  | [] => Reps.nil
  | _ :: ns => Reps.cons (rep_int.mpr rfl) (reps_ints ns)
theorem walk {l : PySem.W.OpenLaw} {q : Program} {loose : List Str} {XP : (Str → Option Value) → Heap → Prop} {YP : World → Heap → Prop} {d : DefRec} {K : Params → PySem.W.Frag} {Pt : Addr} (hn : l.most = some 63) (hdf : d.params.defaults = [])
    (hT : ∀ ns : List Int, ns.length ≤ 63 → F_law [.lst (ns.map D.int)] = .ok (.im (.bl true)))
    (hY : ∀ (w : World) (h : Heap), YP w h → (K w.params).In h) (hY2 : ∀ (w : World) (h : Heap), YP w h → h.get? Pt = some (PySem.W.tabObj #[]))
    (F : ∀ (w : World) (mg : Str → Option Value) (fa : Addr) (h : Heap), (K w.params).In h → h.Ns mainGlobals mg → mg d.name = some (.ref fa) →
      ∃ (fd : FuncData) (cT : Addr), (K w.params).lookup Pt = none ∧ PySem.W.codeHdIn (K w.params) cT Pt = true ∧ (∀ (s : Shared) (u : Value), BindsTo s fd ⟨[u], []⟩ [("_law_script", u)]) ∧ ∀ base : Heap, (K w.params).In base → base.Ns mainGlobals mg → BltAt mg base → FnOk l.prog w (K w.params) mg base CX0 7 fa fd ["_law_script"] (spT (K w.params) Pt tL tC tQ F_law)) :
    PySem.W.WalkO q loose XP YP l.row.toRowW d [] (fun f vs => PySem.call f vs) :=
  walk_ofT (n := 63) (k := 7) (x := "_law_script") (tl := tL) (tc := tC) (tq := tQ) (sp := fun w => spT (K w.params) Pt tL tC tQ F_law) hn (by decide) hdf ⟨rfl, by decide, by decide⟩ hY hY2 F
    fun w H a ns hl ht hS => ⟨ht, H, [.lst (ns.map D.int)], .im (.bl true), Same.refl _, Reps.cons (rep_lst.mpr ⟨a, ns.map V.int, rfl, hS, reps_ints ns⟩) Reps.nil, hT ns hl, fun v Hf' H' _ r => (rep_bl (K := K w.params) (H := Hf')).mp r⟩
end Law

set_option maxRecDepth 100000
set_option maxHeartbeats 4000000
set_option linter.all false
namespace Law
open PySem L2 DL
theorem range0 (n : Nat) : rangeD 0 n = (List.range n).map fun (k : Nat) => D.int (k : Int) := by
  unfold rangeD; simp
theorem iR1 {fs : DSt → M (List D)} {sd : DSt} {n : Nat} (h : fs sd = .ok [.int (n : Int)]) (hn : n ≤ 1000) : iRange1 fs sd = .ok ((List.range n).map fun (k : Nat) => D.int (k : Int)) := by
  simp [iRange1, h, range0]
  lia
theorem few_of {ds : List D} (h : ds.length ≤ 1000000) : few ds = true := decide_eq_true h
theorem fn1 (m : Nat) (f : DSt → M O) (a0 : D) : fnD 1 m f [a0] = fin' (f ([some (S.im a0)] ++ List.replicate m none)) := rfl
theorem fn2 (m : Nat) (f : DSt → M O) (a0 a1 : D) : fnD 2 m f [a0, a1] = fin' (f ([some (S.im a0), some (S.im a1)] ++ List.replicate m none)) := rfl
theorem sSeq_nx {f g : DSt → M O} {sd sd' : DSt} (h : f sd = .ok (.nx sd')) : sSeq f g sd = g sd' := by unfold sSeq; rw [h]; rfl
theorem sSeq_rt {f g : DSt → M O} {sd : DSt} {s : S} (h : f sd = .ok (.rt s)) : sSeq f g sd = .ok (.rt s) := by unfold sSeq; rw [h]; rfl
theorem sFor_ok {fi : DSt → M (List D)} {g : D → DSt → M DSt} {f : DSt → M O} {sd : DSt} {ds : List D} (h : fi sd = .ok ds) : sFor fi g f sd = loopD g f ds sd := by unfold sFor; rw [h]; rfl
theorem go {f g : DSt → M O} {sd sd' : DSt} {r : M O} (h : f sd = .ok (.nx sd')) (k : g sd' = r) : sSeq f g sd = r := (sSeq_nx h).trans k
theorem fin_of {r : M O} {s : S} (h : r = .ok (.rt s)) : fin' r = .ok s := by rw [h]; rfl
theorem own_nil (i : Nat) (sd : DSt) : sOwn i (fLst aNil) sd = .ok (.nx (sd.set i (some (.ow [])))) := by
  unfold sOwn fLst aNil
  rw [M.bind_ok, few_of (Nat.zero_le _), if_pos rfl, M.bind_ok]
theorem p4000 {n : Nat} (h : n ≤ 10 ^ 30) : n < 2 ^ 4000 := by
  have h1 : (10 : Nat) ^ 30 ≤ 16 ^ 30 := Nat.pow_le_pow_left (by decide) 30
  have h2 : (16 : Nat) ^ 30 = 2 ^ 120 := by rw [show (16 : Nat) = 2 ^ 4 from rfl, ← Nat.pow_mul]
  have h3 : (2 : Nat) ^ 120 < 2 ^ 4000 := Nat.pow_lt_pow_right (by decide) (by decide)
  lia
theorem sm30 {x : Int} (h : -1000000000000000000000000000000 ≤ x) (h' : x ≤ 1000000000000000000000000000000) : sm x = true := sm_iff.mpr (p4000 (by have : (10 : Nat) ^ 30 = 1000000000000000000000000000000 := rfl; lia))
theorem gT {i j : Int} (hi : sm i = true) (hj : sm j = true) : gTimes (.int i) (.int j) = .ok (.int (i * j)) := by
  show (if (sm i && sm j) = true then _ else _) = _
  rw [hi, hj]; rfl
theorem gFd {i j : Int} (hj : 0 < j) (hs : sm j = true) : gFdiv (.int i) (.int j) = .ok (.int (i / j)) := by
  show (if (j != 0 && sm j) = true then M.ok (D.int (i.fdiv j)) else _) = _
  have : (j != 0) = true := by simp; lia
  rw [this, hs, Int.fdiv_eq_ediv_of_nonneg i (by lia)]; rfl
theorem gM {i j : Int} (hj : 0 < j) : gMod (.int i) (.int j) = .ok (.int (i % j)) := by
  show (if (j != 0) = true then M.ok (D.int (i.fmod j)) else _) = _
  have : (j != 0) = true := by simp; lia
  rw [this, Int.fmod_eq_emod_of_nonneg i (by lia)]; rfl
theorem set_ok {i : Nat} {f : DSt → M D} {sd : DSt} {d : D} (h : f sd = .ok d) : sSet i f sd = .ok (.nx (sd.set i (some (.im d)))) := by unfold sSet; rw [h]; rfl
theorem call_ok {F : List D → M S} {fs : DSt → M (List D)} {sd : DSt} {ds : List D} {s : S} {d : D} (h1 : fs sd = .ok ds) (h2 : F ds = .ok s) (h3 : s.toD = .ok d) : eCall F fs sd = .ok d := by
  unfold eCall; rw [h1, M.bind_ok, h2]; exact h3
theorem a1 {fa : DSt → M D} {sd : DSt} {d : D} (h : fa sd = .ok d) : aCons fa aNil sd = .ok [d] := by unfold aCons aNil; rw [h]; rfl
theorem aC {fa : DSt → M D} {fr : DSt → M (List D)} {sd : DSt} {d : D} {ds : List D} (h : fa sd = .ok d) (h2 : fr sd = .ok ds) : aCons fa fr sd = .ok (d :: ds) := by unfold aCons; rw [h, M.bind_ok, h2]; rfl
theorem ret_ok {f : DSt → M D} {sd : DSt} {d : D} (h : f sd = .ok d) : sRet f sd = .ok (.rt (.im d)) := by unfold sRet; rw [h]; rfl
theorem cb_ok {g : List D → M D} {fs : DSt → M (List D)} {sd : DSt} {ds : List D} {r : M D} (h1 : fs sd = .ok ds) (h2 : g ds = r) : eCB g fs sd = r := by unfold eCB; rw [h1]; exact h2
theorem loop_nx {g : D → DSt → M DSt} {f : DSt → M O} {d : D} {r : List D} {sd sd1 sd2 : DSt} (h1 : g d sd = .ok sd1) (h2 : f sd1 = .ok (.nx sd2)) : loopD g f (d :: r) sd = loopD g f r sd2 := by
  simp only [loopD, h1, h2, M.bind_ok]
theorem atI0 {α : Type} (x : α) (r : List α) : atI (x :: r) 0 = some x := by
  have := atI_nat (xs := x :: r) (j := 0) (v := x) rfl
  exact this
theorem atI1 {α : Type} (x y : α) (r : List α) : atI (x :: y :: r) 1 = some y := by
  have := atI_nat (xs := x :: y :: r) (j := 1) (v := y) rfl
  exact this
theorem smI {x : Int} (h : -1000000000 ≤ x) (h' : x ≤ 1000000000) : sm x = true := sm30 (by lia) (by lia)
theorem own_ok {i : Nat} {f : DSt → M (List D)} {sd : DSt} {ds : List D} (h : f sd = .ok ds) : sOwn i f sd = .ok (.nx (sd.set i (some (.ow ds)))) := by unfold sOwn; rw [h]; rfl
theorem if_skip {c : DSt → M Bool} {f : DSt → M O} {sd : DSt} (h : c sd = .ok false) : sIf c f sNil sd = .ok (.nx sd) := by unfold sIf; rw [h]; rfl
theorem tO_ff {f g : DSt → M Bool} {sd : DSt} (h1 : f sd = .ok false) (h2 : g sd = .ok false) : DL.tO f g sd = .ok false := by unfold DL.tO; rw [h1]; exact h2
theorem tN_t {f : DSt → M Bool} {sd : DSt} (h : f sd = .ok true) : DL.tN f sd = .ok false := by unfold DL.tN; rw [h]; rfl
theorem tB_b {f : DSt → M D} {sd : DSt} {b : Bool} (h : f sd = .ok (.bl b)) : DL.tB f sd = .ok b := by unfold DL.tB; rw [h]; rfl
theorem op_ok {g : D → D → M D} {fa fb : DSt → M D} {sd : DSt} {x y : D} {r : M D} (h1 : fa sd = .ok x) (h2 : fb sd = .ok y) (h3 : g x y = r) : eOp g fa fb sd = r := by unfold eOp; rw [h1, M.bind_ok, h2, M.bind_ok, h3]
theorem and_ok {f g : DSt → M D} {sd : DSt} {r : M D} (h1 : f sd = .ok (.bl true)) (h2 : g sd = r) : eAnd f g sd = r := by unfold eAnd; rw [h1, M.bind_ok]; exact h2
theorem if_take {c : DSt → M Bool} {f g : DSt → M O} {sd : DSt} {r : M O} (h : c sd = .ok true) (k : f sd = r) : sIf c f g sd = r := by unfold sIf; rw [h]; exact k
theorem tA_f {f g : DSt → M Bool} {sd : DSt} (h1 : f sd = .ok false) : DL.tA f g sd = .ok false := by unfold DL.tA; rw [h1]; rfl
theorem tA_t {f g : DSt → M Bool} {sd : DSt} {r : M Bool} (h1 : f sd = .ok true) (h2 : g sd = r) : DL.tA f g sd = r := by unfold DL.tA; rw [h1]; exact h2
theorem and_f {f g : DSt → M D} {sd : DSt} (h1 : f sd = .ok (.bl false)) : eAnd f g sd = .ok (.bl false) := by unfold eAnd; rw [h1]; rfl
theorem atI2 {α : Type} (x y z : α) (r : List α) : atI (x :: y :: z :: r) 2 = some z := atI_nat (xs := x :: y :: z :: r) (j := 2) (v := z) rfl
theorem atI3 {α : Type} (x y z u : α) (r : List α) : atI (x :: y :: z :: u :: r) 3 = some u := atI_nat (xs := x :: y :: z :: u :: r) (j := 3) (v := u) rfl
theorem atI4 {α : Type} (x y z u v : α) (r : List α) : atI (x :: y :: z :: u :: v :: r) 4 = some v := atI_nat (xs := x :: y :: z :: u :: v :: r) (j := 4) (v := v) rfl
end Law

set_option maxRecDepth 100000
set_option maxHeartbeats 4000000
set_option linter.all false
namespace Law
open PySem L2 DL
def nbBody : DSt → M O := (sSeq (sSet 3 (eOp gMod (eOp gPlus (eOp gPlus (eOp gTimes (eVar 3) (eOp gPlus (eOp gMod (eVar 3) (eC (.int 65521))) (eC (.int 40487)))) (eOp gTimes (eC (.int 7)) (eVar 5))) (eC (.int 5))) (eC (.int 1999999973))))
      (sSeq (sApp 2 (eOp gIx (eLst (aCons (eVar 3) (aCons (eOp gMod (eVar 4) (eC (.int 1000000))) aNil))) (eCB bInt (aCons (eOp gGt (eVar 4) (eC (.int 0))) aNil))))
      (sSet 4 (eOp gFdiv (eVar 4) (eC (.int 1000000))))))
def nbOk (d : Int) : Prop := 0 ≤ d ∧ d < 1999999973
theorem nb_turn (s0 s1 : Option S) (ds : List D) (hd : ds.length ≤ 1000) (N R K : Int) (hN : 0 ≤ N) (hN' : N < 1999999973) (hK : 0 ≤ K) (hK' : K ≤ 1000) :
    ∃ d N' : Int, 0 ≤ N' ∧ N' < 1999999973 ∧ nbOk d ∧ nbBody [s0, s1, some (.ow ds), some (.im (.int N)), some (.im (.int R)), some (.im (.int K))] =
      .ok (.nx [s0, s1, some (.ow (ds ++ [.int d])), some (.im (.int N')), some (.im (.int (R / 1000000))), some (.im (.int K))]) := by
  have q1 : 0 ≤ N % 65521 := Int.emod_nonneg _ (by decide)
  have q2 : N % 65521 < 65521 := Int.emod_lt_of_pos _ (by decide)
  have g1 := gM (i := N) (j := 65521) (by decide)
  have g2 := gT (i := N) (j := N % 65521 + 40487) (sm30 (by lia) (by lia)) (sm30 (by lia) (by lia))
  have g3 := gT (i := 7) (j := K) (sm30 (by lia) (by lia)) (sm30 (by lia) (by lia))
  have g4 := gM (i := N * (N % 65521 + 40487) + 7 * K + 5) (j := 1999999973) (by decide)
  have e1 : sSet 3 (eOp gMod (eOp gPlus (eOp gPlus (eOp gTimes (eVar 3) (eOp gPlus (eOp gMod (eVar 3) (eC (.int 65521))) (eC (.int 40487)))) (eOp gTimes (eC (.int 7)) (eVar 5))) (eC (.int 5))) (eC (.int 1999999973)))
      [s0, s1, some (.ow ds), some (.im (.int N)), some (.im (.int R)), some (.im (.int K))] =
      .ok (.nx [s0, s1, some (.ow ds), some (.im (.int ((N * (N % 65521 + 40487) + 7 * K + 5) % 1999999973))), some (.im (.int R)), some (.im (.int K))]) := by
    simp [sSet, eOp, eVar, eC, g1, gPlus, g2, g3, g4]
  have b1 : 0 ≤ (N * (N % 65521 + 40487) + 7 * K + 5) % 1999999973 := Int.emod_nonneg _ (by decide)
  have b2 : (N * (N % 65521 + 40487) + 7 * K + 5) % 1999999973 < 1999999973 := Int.emod_lt_of_pos _ (by decide)
  generalize (N * (N % 65521 + 40487) + 7 * K + 5) % 1999999973 = N' at e1 b1 b2
  have f1 : few ds = true := few_of (by lia)
  have g5 := gM (i := R) (j := 1000000) (by decide)
  have g8 := gFd (i := R) (j := 1000000) (by decide) (sm30 (by decide) (by decide))
  have f2 : few [D.int N', D.int (R % 1000000)] = true := few_of (by simp)
  by_cases hR : R > 0
  · have p1 : 0 ≤ R % 1000000 := Int.emod_nonneg _ (by decide)
    have p2 : R % 1000000 < 1000000 := Int.emod_lt_of_pos _ (by decide)
    refine ⟨R % 1000000, N', b1, b2, ⟨p1, by lia⟩, go e1 ?_⟩
    simp [sSeq, sApp, eOp, eLst, aCons, aNil, eVar, eC, g5, f2, eCB, gGt, gI0, hR, bInt, gIx, atI1, f1, sSet, g8]
  · refine ⟨N', N', b1, b2, ⟨b1, b2⟩, go e1 ?_⟩
    simp [sSeq, sApp, eOp, eLst, aCons, aNil, eVar, eC, g5, f2, eCB, gGt, gI0, hR, bInt, gIx, atI0, f1, sSet, g8]
theorem nb_loop (s0 s1 : Option S) : ∀ (ks : List Nat) (ds : List Int) (N R : Int) (v : Option S), ds.length + ks.length ≤ 1000 → (∀ k ∈ ks, k ≤ 1000) → 0 ≤ N → N < 1999999973 → (∀ d ∈ ds, nbOk d) →
    ∃ (es : List Int) (N' R' : Int) (v' : Option S), es.length = ds.length + ks.length ∧ (∀ d ∈ es, nbOk d) ∧ loopD (gNm 5) nbBody (ks.map fun (k : Nat) => D.int (k : Int)) [s0, s1, some (.ow (ds.map D.int)), some (.im (.int N)), some (.im (.int R)), v] =
      .ok (.nx [s0, s1, some (.ow (es.map D.int)), some (.im (.int N')), some (.im (.int R')), v'])
  | [], ds, N, R, v, _, _, _, _, hd => ⟨ds, N, R, v, by simp, hd, by simp [loopD]⟩
  | k :: ks, ds, N, R, v, h, hk, hN, hN', hd => by
    rw [List.length_cons] at h
    have hk0 := hk k List.mem_cons_self
    obtain ⟨d, N1, h1, h2, h3, e⟩ := nb_turn s0 s1 (ds.map D.int) (by simp; lia) N R (k : Int) hN hN' (by lia) (by lia)
    obtain ⟨es, N', R', v', hl, ho, ih⟩ := nb_loop s0 s1 ks (ds ++ [d]) N1 (R / 1000000) (some (.im (.int (k : Int)))) (by simp; lia) (fun k hk' => hk k (List.mem_cons_of_mem _ hk')) h1 h2 (fun d' hd' => by
      rcases List.mem_append.mp hd' with q | q
      · exact hd d' q
      · have : d' = d := by simpa using q
        rw [this]; exact h3)
    refine ⟨es, N', R', v', by rw [hl]; simp; lia, ho, ?_⟩
    rw [List.map_append, List.map_cons, List.map_nil] at ih
    rw [← ih]
    simp [loopD, gNm, e]
theorem f_numbers (c : Int) (n : Nat) (hn : n ≤ 1000) : ∃ es : List Int, es.length = n ∧ (∀ d ∈ es, nbOk d) ∧ F__law_numbers [.int c, .int (n : Int)] = .ok (.ow (es.map D.int)) := by
  have g1 := gM (i := c) (j := 1999999973) (by decide)
  have q1 : 0 ≤ c % 1999999973 := Int.emod_nonneg _ (by decide)
  have q2 : c % 1999999973 < 1999999973 := Int.emod_lt_of_pos _ (by decide)
  have g2 := gT (i := c % 1999999973 + 31) (j := 765432101) (sm30 (by lia) (by lia)) (sm30 (by lia) (by lia))
  have g3 := gM (i := (c % 1999999973 + 31) * 765432101) (j := 1999999973) (by decide)
  have g4 : gPow (.int 10) (.int 18) = .ok (.int 1000000000000000000) := rfl
  have b1 : 0 ≤ (c % 1999999973 + 31) * 765432101 % 1999999973 := Int.emod_nonneg _ (by decide)
  have b2 : (c % 1999999973 + 31) * 765432101 % 1999999973 < 1999999973 := Int.emod_lt_of_pos _ (by decide)
  have e2 : sSet 3 (eOp gMod (eOp gTimes (eOp gPlus (eOp gMod (eVar 0) (eC (.int 1999999973))) (eC (.int 31))) (eC (.int 765432101))) (eC (.int 1999999973))) [some (.im (.int c)), some (.im (.int (n : Int))), some (.ow []), none, none, none] =
      .ok (.nx [some (.im (.int c)), some (.im (.int (n : Int))), some (.ow []), some (.im (.int ((c % 1999999973 + 31) * 765432101 % 1999999973))), none, none]) := by
    simp [sSet, eOp, eVar, eC, g1, gPlus, g2, g3]
  generalize (c % 1999999973 + 31) * 765432101 % 1999999973 = N at e2 b1 b2
  obtain ⟨R, e4⟩ : ∃ R : Int, (sIf (DL.tO (DL.tB (eOp gLt (eVar 0) (eC (.int 0)))) (DL.tB (eOp gGe (eVar 0) (eOp gPow (eC (.int 10)) (eC (.int 18)))))) (sSet 4 (eCB bAbs (aCons (eVar 0) aNil))) sNil) [some (.im (.int c)), some (.im (.int (n : Int))), some (.ow []), some (.im (.int N)), some (.im (.int 0)), none] =
      .ok (.nx [some (.im (.int c)), some (.im (.int (n : Int))), some (.ow []), some (.im (.int N)), some (.im (.int R)), none]) := by
    by_cases h1 : c < 0
    · exact ⟨-c, by simp [sIf, DL.tO, DL.tB, eOp, eVar, eC, gLt, gI0, h1, asB, sSet, eCB, bAbs, aCons, aNil]⟩
    · by_cases h2 : 1000000000000000000 ≤ c
      · exact ⟨c, by simp [sIf, DL.tO, DL.tB, eOp, eVar, eC, gLt, gGe, gI0, h1, h2, g4, asB, sSet, eCB, bAbs, aCons, aNil]⟩
      · exact ⟨0, by simp [sIf, DL.tO, DL.tB, eOp, eVar, eC, gLt, gGe, gI0, h1, h2, g4, asB, sSet, eCB, bAbs, aCons, aNil, sNil]⟩
  obtain ⟨es, N', R', v', hl, ho, e5⟩ := nb_loop (some (.im (.int c))) (some (.im (.int (n : Int)))) (List.range n) [] N R none (by simp; lia) (fun k hk => by have := List.mem_range.mp hk; lia) b1 b2 (fun d hd => by simp at hd)
  refine ⟨es, by simpa using hl, ho, ?_⟩
  have r1 : ∀ s0 s, iRange1 (aCons (eVar 1) aNil) (s0 :: some (.im (.int (n : Int))) :: s) = .ok ((List.range n).map fun (k : Nat) => D.int (k : Int)) := fun s0 s => iR1 (by simp [aCons, aNil, eVar]) hn
  exact (fn2 _ _ _ _).trans (fin_of (go (own_nil 2 _) (go e2 (go rfl (go e4 (go ((sFor_ok (r1 _ _)).trans e5) rfl))))))
end Law

set_option maxRecDepth 100000
set_option maxHeartbeats 4000000
set_option linter.all false
namespace Law
open PySem L2 DL
theorem tup2 {fa fb : DSt → M D} {sd : DSt} {a b : D} (h1 : fa sd = .ok a) (h2 : fb sd = .ok b) : eTup (aCons fa (aCons fb aNil)) sd = .ok (.tup [a, b]) := by
  unfold eTup; rw [aC h1 (a1 h2)]; rfl
theorem lst_of {fs : DSt → M (List D)} {sd : DSt} {ds : List D} (h : fs sd = .ok ds) (hf : few ds = true) : eLst fs sd = .ok (.lst ds) := by
  unfold eLst
  rw [h, M.bind_ok, if_pos hf]
theorem gEq_b {x y : D} (h : x.dep ≤ 60) : gEq x y = .ok (.bl (D.eq x y)) := if_pos h
theorem gNe_b {x y : D} (h : x.dep ≤ 60) : gNe x y = .ok (.bl (!D.eq x y)) := if_pos h
theorem eq_int (a b : Int) : gEq (.int a) (.int b) = .ok (.bl (a == b)) := by rw [gEq_b (by simp [D.dep])]; simp only [D.eq]
theorem tA_b {f g : DSt → M Bool} {sd : DSt} {a b : Bool} (h1 : f sd = .ok a) (h2 : g sd = .ok b) : DL.tA f g sd = .ok (a && b) := by
  cases a
  · exact tA_f h1
  · exact tA_t h1 h2
theorem and_bb {f g : DSt → M D} {sd : DSt} {a b : Bool} (h1 : f sd = .ok (.bl a)) (h2 : g sd = .ok (.bl b)) : eAnd f g sd = .ok (.bl (a && b)) := by
  cases a
  · exact and_f h1
  · exact and_ok h1 h2
theorem deps_le {n : Nat} : ∀ {l : List D}, (∀ d ∈ l, d.dep ≤ n) → D.deps l ≤ n
  | [], _ => by simp [D.deps]
  | a :: r, h => by
    simp only [D.deps]
    have := h a (by simp)
    have := deps_le (l := r) fun d hd => h d (by simp [hd])
    lia
theorem app_ok {i : Nat} {f : DSt → M D} {sd : DSt} {ds : List D} {d : D} (h : sd[i]? = some (some (.ow ds))) (hf : f sd = .ok d) (hl : ds.length ≤ 1000) : sApp i f sd = .ok (.nx (sd.set i (some (.ow (ds ++ [d]))))) := by
  unfold sApp
  rw [h]
  dsimp only
  rw [hf, M.bind_ok, few_of (by lia), if_pos rfl]
theorem seq_l {f : DSt → M D} {sd : DSt} {ds : List D} (h : f sd = .ok (.lst ds)) : iSeq f sd = .ok ds := by
  unfold iSeq
  rw [h]
  rfl
theorem mapQ {α : Type} {gt : D → DSt → M DSt} {fe : DSt → M D} {sd0 : DSt} (e g : α → D) : ∀ l : List α, (∀ a ∈ l, ∃ sd1, gt (e a) sd0 = .ok sd1 ∧ fe sd1 = .ok (g a)) → mapD gt fe sd0 (l.map e) = .ok (l.map g)
  | [], _ => rfl
  | a :: l, h => by
    obtain ⟨sd1, h1, h2⟩ := h a (by simp)
    rw [List.map_cons, List.map_cons]
    simp only [mapD, h1, h2, mapQ e g l fun b hb => h b (by simp [hb])]
/-! ### divisors -/
theorem gcd_step {g l : Int} (hg : 0 ≤ g) (hl : 0 < l) : Int.gcd l (g % l) = Int.gcd g l := by
  obtain ⟨g', rfl⟩ := Int.eq_ofNat_of_zero_le hg
  obtain ⟨l', rfl⟩ := Int.eq_ofNat_of_zero_le (Int.le_of_lt hl)
  rw [← Int.natCast_emod]
  simp only [Int.gcd, Int.natAbs_natCast]
  rw [Nat.gcd_comm l', ← Nat.gcd_rec, Nat.gcd_comm]
theorem gcd_zero' {g : Int} (hg : 0 ≤ g) : ((Int.gcd g 0 : Nat) : Int) = g := by
  rw [Int.gcd_zero_right]; lia
theorem loop_cd (x y : Option S) : ∀ (n : Nat) (g l : Int) (r : Option S), 0 ≤ g → 0 ≤ l → l.toNat < n →
    ∃ r', whileD (DL.tB (eOp gNe (eVar 3) (eC (.int 0)))) (sSeq (sSet 4 (eOp gMod (eVar 2) (eVar 3))) (sSeq (sSet 2 (eVar 3)) (sSet 3 (eVar 4)))) n [x, y, some (.im (.int g)), some (.im (.int l)), r] =
      .ok (.nx [x, y, some (.im (.int (Int.gcd g l : Nat))), some (.im (.int 0)), r'])
  | 0, _, _, _, _, _, h => by lia
  | n + 1, g, l, r, hg, hl, h => by
    by_cases hz : l = 0
    · subst hz
      refine ⟨r, ?_⟩
      simp [whileD, DL.tB, eOp, eVar, eC, gNe, D.dep, D.eq, asB, gcd_zero' hg]
      lia
    · have hp : 0 < l := by lia
      have hm0 : 0 ≤ g % l := Int.emod_nonneg g (by lia)
      have hm1 : g % l < l := Int.emod_lt_of_pos g hp
      obtain ⟨r', e⟩ := loop_cd x y n l (g % l) (some (.im (.int (g % l)))) hl hm0 (by lia)
      refine ⟨r', ?_⟩
      rw [gcd_step hg hp] at e
      rw [← e]
      simp [whileD, DL.tB, eOp, eVar, eC, gNe, D.dep, D.eq, asB, sSeq, sSet, gM hp, hz]
theorem ab (a : Int) : (if a < 0 then -a else a) = (a.natAbs : Int) := by split <;> lia
theorem abs_ok (a : Int) : bAbs [.int a] = .ok (.int (a.natAbs : Int)) := by
  show M.ok (D.int (if a < 0 then -a else a)) = _
  rw [ab]
theorem f_cd (a b : Int) : F_common_divisor [.int a, .int b] = .ok (.im (.int (Int.gcd a b : Nat))) := by
  obtain ⟨r', e⟩ := loop_cd (some (.im (.int a))) (some (.im (.int b))) (b.natAbs + 1) a.natAbs b.natAbs none (by lia) (by lia) (by lia)
  have e2 := sWhile_eq (c := DL.tB (eOp gNe (eVar 3) (eC (.int 0)))) (f := sSeq (sSet 4 (eOp gMod (eVar 2) (eVar 3))) (sSeq (sSet 2 (eVar 3)) (sSet 3 (eVar 4)))) (n := b.natAbs + 1) (sd := [some (.im (.int a)), some (.im (.int b)), some (.im (.int a.natAbs)), some (.im (.int b.natAbs)), none]) (by rw [e]; simp)
  rw [e] at e2
  refine (fn2 _ _ _ _).trans (fin_of (go (set_ok (cb_ok (a1 rfl) (abs_ok a))) (go (set_ok (cb_ok (a1 rfl) (abs_ok b))) (go e2 (ret_ok ?_)))))
  show M.ok (D.int ((Int.gcd (a.natAbs : Int) (b.natAbs : Int) : Nat) : Int)) = _
  simp [Int.gcd]
theorem loop_lg (x y : Option S) : ∀ (n : Nat) (lo hi : Int), 0 ≤ hi → 0 ≤ lo → lo.toNat < n →
    whileD (DL.tB (eOp gGt (eVar 2) (eC (.int 0)))) (sPar 2 3 (aCons (eOp gMod (eVar 3) (eVar 2)) (aCons (eVar 2) aNil))) n [x, y, some (.im (.int lo)), some (.im (.int hi))] =
      .ok (.nx [x, y, some (.im (.int 0)), some (.im (.int (Int.gcd hi lo : Nat)))])
  | 0, _, _, _, _, h => by lia
  | n + 1, lo, hi, hg, hl, h => by
    by_cases hz : lo = 0
    · subst hz
      simp [whileD, DL.tB, eOp, eVar, eC, gGt, gI0, asB]
      lia
    · have hp : 0 < lo := by lia
      have hm0 : 0 ≤ hi % lo := Int.emod_nonneg hi (by lia)
      have hm1 : hi % lo < lo := Int.emod_lt_of_pos hi hp
      have e := loop_lg x y n (hi % lo) lo hl hm0 (by lia)
      rw [gcd_step hg hp] at e
      rw [← e]
      simp [whileD, DL.tB, eOp, eVar, eC, gGt, gI0, asB, sPar, aCons, aNil, gM hp, hp]
theorem asg2 {f : DSt → M D} {i j : Nat} {sd : DSt} {a b : D} (h : f sd = .ok (.tup [a, b])) : sAsg f (gTupD 2 (gsCons (gNm i) (gsCons (gNm j) gsNil))) sd = .ok (.nx ((sd.set i (some (.im a))).set j (some (.im b)))) := by
  unfold sAsg
  rw [h]
  rfl
theorem asg2l {f : DSt → M D} {i j : Nat} {sd : DSt} {a b : D} (h : f sd = .ok (.lst [a, b])) : sAsg f (gTupD 2 (gsCons (gNm i) (gsCons (gNm j) gsNil))) sd = .ok (.nx ((sd.set i (some (.im a))).set j (some (.im b)))) := by
  unfold sAsg
  rw [h]
  rfl
theorem f_lg (a b : Int) : F__law_gcd [.int a, .int b] = .ok (.im (.int (Int.gcd a b : Nat))) := by
  have key : ∀ lo hi : Int, 0 ≤ lo → 0 ≤ hi → Int.gcd hi lo = Int.gcd a b → sortI [(a.natAbs : Int), (b.natAbs : Int)] = [lo, hi] → F__law_gcd [.int a, .int b] = .ok (.im (.int (Int.gcd a b : Nat))) := fun lo hi h1 h2 h3 h4 => by
    have e := loop_lg (some (.im (.int a))) (some (.im (.int b))) (lo.toNat + 1) lo hi h2 h1 (by lia)
    have e2 := sWhile_eq (c := DL.tB (eOp gGt (eVar 2) (eC (.int 0)))) (f := sPar 2 3 (aCons (eOp gMod (eVar 3) (eVar 2)) (aCons (eVar 2) aNil))) (n := lo.toNat + 1) (sd := [some (.im (.int a)), some (.im (.int b)), some (.im (.int lo)), some (.im (.int hi))]) (by rw [e]; simp)
    rw [e, h3] at e2
    have hs : eCB bSorted (aCons (eLst (aCons (eCB bAbs (aCons (eVar 0) aNil)) (aCons (eCB bAbs (aCons (eVar 1) aNil)) aNil))) aNil) [some (.im (.int a)), some (.im (.int b)), none, none] = .ok (.lst [.int lo, .int hi]) := by
      refine cb_ok (a1 (lst_of (aC (cb_ok (a1 rfl) (abs_ok a)) (a1 (cb_ok (a1 rfl) (abs_ok b)))) rfl)) ?_
      simp [bSorted, intsOf, few, h4]
    exact (fn2 _ _ _ _).trans (fin_of (go (asg2l hs) (go e2 (ret_ok rfl))))
  by_cases hc : (a.natAbs : Int) ≤ b.natAbs
  · refine key a.natAbs b.natAbs (by lia) (by lia) ?_ ?_
    · simp [Int.gcd, Nat.gcd_comm]
    · simp only [sortI, insI]; rw [if_pos hc]
  · refine key b.natAbs a.natAbs (by lia) (by lia) ?_ ?_
    · simp [Int.gcd]
    · simp only [sortI, insI]; rw [if_neg hc]
/-! ### lowest terms -/
def nD (p q : Int) : D := .tup [.int p, .int q]
def low (t b : Int) : D := nD (t / (Int.gcd t b : Nat)) (b / (Int.gcd t b : Nat))
theorem gcd_pos {t b : Int} (hb : b ≠ 0 ∨ t ≠ 0) : (0 : Int) < (Int.gcd t b : Nat) := by
  have : 0 < Int.gcd t b := Nat.pos_of_ne_zero fun z => by
    have := Int.gcd_eq_zero_iff.mp z
    lia
  lia
theorem gcd_sm {t b : Int} (hb : b.natAbs ≤ 1000000000) (ht : t.natAbs ≤ 1000000000) : sm ((Int.gcd t b : Nat) : Int) = true := by
  by_cases hz : b = 0
  · subst hz
    have : Int.gcd t 0 = t.natAbs := by simp
    rw [this]
    exact smI (by lia) (by lia)
  · have h1 : ((Int.gcd t b : Nat) : Int) ∣ b := Int.gcd_dvd_right t b
    have h2 := Nat.le_of_dvd (by lia) (Int.natAbs_dvd_natAbs.mpr h1)
    exact smI (by lia) (by lia)
theorem f_lowest {t b : Int} (hb : 0 < b) (hs : b ≤ 1000000000) (ht : t.natAbs ≤ 1000000000) : F__law_lowest [.int t, .int b] = .ok (.im (low t b)) := by
  have gp := gcd_pos (t := t) (b := b) (by lia)
  have gs := gcd_sm (t := t) (b := b) (by lia) ht
  exact (fn2 _ _ _ _).trans (fin_of (go (set_ok (call_ok (aC rfl (a1 rfl)) (f_lg t b) rfl)) (ret_ok (tup2 (op_ok rfl rfl (gFd gp gs)) (op_ok rfl rfl (gFd gp gs))))))
/-- a number's parts -/
structure Nm (A B : Nat) (p q : Int) : Prop where
  pos : 0 < q
  bot : q ≤ B
  top : p.natAbs ≤ A
theorem low_nm {A B : Nat} {t b : Int} (hb : 0 < b) (hB : b ≤ B) (ht : t.natAbs ≤ A) : ∃ p q, low t b = nD p q ∧ Nm A B p q ∧ (t ≠ 0 → p ≠ 0) := by
  obtain ⟨u, eu⟩ : ((Int.gcd t b : Nat) : Int) ∣ t := Int.gcd_dvd_left t b
  obtain ⟨v, ev⟩ : ((Int.gcd t b : Nat) : Int) ∣ b := Int.gcd_dvd_right t b
  have gp := gcd_pos (t := t) (b := b) (by lia)
  refine ⟨_, _, rfl, ?_⟩
  generalize ((Int.gcd t b : Nat) : Int) = g at eu ev gp ⊢
  rw [eu, ev, Int.mul_ediv_cancel_left _ (by lia), Int.mul_ediv_cancel_left _ (by lia)]
  have v1 : 0 < v := by
    rcases Int.lt_or_le 0 v with h | h
    · exact h
    · have := Int.mul_nonpos_of_nonneg_of_nonpos (Int.le_of_lt gp) h; lia
  have u1 : u.natAbs ≤ (g * u).natAbs := by
    rw [Int.natAbs_mul]
    exact Nat.le_mul_of_pos_left _ (by lia)
  refine ⟨⟨v1, ?_, by rw [← eu] at u1; lia⟩, fun h z => h (by rw [z, Int.mul_zero])⟩
  have : v ≤ g * v := by
    have := Int.mul_le_mul_of_nonneg_right (show (1 : Int) ≤ g by lia) (Int.le_of_lt v1)
    lia
  lia
end Law

set_option maxRecDepth 100000
set_option maxHeartbeats 4000000
set_option linter.all false
namespace Law
open PySem L2 DL
theorem ix_ok {fa fb : DSt → M D} {sd : DSt} {ds : List D} {i : Int} {d : D} (h : fa sd = .ok (.lst ds)) (h2 : fb sd = .ok (.int i)) (e : atI ds i = some d) : eOp gIx fa fb sd = .ok d := by
  refine op_ok h h2 ?_
  show (match atI ds i with | some d => M.ok d | none => .bad) = _
  rw [e]
theorem ixt_ok {fa fb : DSt → M D} {sd : DSt} {ds : List D} {i : Int} {d : D} (h : fa sd = .ok (.tup ds)) (h2 : fb sd = .ok (.int i)) (e : atI ds i = some d) : eOp gIx fa fb sd = .ok d := by
  refine op_ok h h2 ?_
  show (match atI ds i with | some d => M.ok d | none => .bad) = _
  rw [e]
theorem f_step (c : Int) : ∃ a b e d : Int, Nm 80000 12 a b ∧ Nm 80000 12 e d ∧ (a ≠ 0 ∨ e ≠ 0) ∧ F__law_step [.int c] = .ok (.im (.tup [nD a b, nD e d])) := by
  obtain ⟨es, hl, hb, hn⟩ := f_numbers c 6 (by decide)
  match es, hl with
  | [x0, x1, x2, x3, x4, x5], _ =>
  have h0 := hb x0 (by simp)
  have h1 := hb x1 (by simp)
  have h2 := hb x2 (by simp)
  have h3 := hb x3 (by simp)
  have h4 := hb x4 (by simp)
  have h5 := hb x5 (by simp)
  unfold nbOk at h0 h1 h2 h3 h4 h5
  -- the bound
  obtain ⟨m, m1, m2, em⟩ : ∃ m : Int, 12 ≤ m ∧ m ≤ 80000 ∧ atI [D.int 12, D.int 12, D.int 12, D.int 80000] (x4 % 4) = some (D.int m) := by
    have q0 : 0 ≤ x4 % 4 := Int.emod_nonneg _ (by decide)
    have q1 : x4 % 4 < 4 := Int.emod_lt_of_pos _ (by decide)
    rcases (by lia : x4 % 4 = 0 ∨ x4 % 4 = 1 ∨ x4 % 4 = 2 ∨ x4 % 4 = 3) with q | q | q | q
    · exact ⟨12, by decide, by decide, by rw [q]; exact atI0 _ _⟩
    · exact ⟨12, by decide, by decide, by rw [q]; exact atI1 _ _ _⟩
    · exact ⟨12, by decide, by decide, by rw [q]; exact atI2 _ _ _ _⟩
    · exact ⟨80000, by decide, by decide, by rw [q]; exact atI3 _ _ _ _ _⟩
  have w0 := Int.emod_nonneg x0 (show 2 * m + 1 ≠ 0 by lia)
  have w1 := Int.emod_lt_of_pos x0 (show 0 < 2 * m + 1 by lia)
  have w2 := Int.emod_nonneg x1 (show 2 * m + 1 ≠ 0 by lia)
  have w3 := Int.emod_lt_of_pos x1 (show 0 < 2 * m + 1 by lia)
  have sm2 : sm 2 = true := smI (by decide) (by decide)
  have smm : sm m = true := smI (by lia) (by lia)
  -- the bottoms
  have fin : ∀ (b d dx dy : Int), 0 < b → b ≤ 12 → 0 < d → d ≤ 12 → dx.natAbs ≤ 80000 → dy.natAbs ≤ 80000 → (dx ≠ 0 ∨ dy ≠ 0) → ∃ a b' e d' : Int, Nm 80000 12 a b' ∧ Nm 80000 12 e d' ∧ (a ≠ 0 ∨ e ≠ 0) ∧
      sRet (eTup (aCons (eCall F__law_lowest (aCons (eVar 4) (aCons (eOp gIx (eVar 3) (eC (.int 0))) aNil))) (aCons (eCall F__law_lowest (aCons (eVar 5) (aCons (eOp gIx (eVar 3) (eC (.int 1))) aNil))) aNil))) [some (.im (.int c)), some (.im (.lst [.int x0, .int x1, .int x2, .int x3, .int x4, .int x5])), some (.im (.int m)), some (.im (.lst [.int b, .int d])), some (.im (.int dx)), some (.im (.int dy))] = .ok (.rt (.im (.tup [nD a b', nD e d']))) := by
    intro b d dx dy b1 b2 d1 d2 hx hy hz
    obtain ⟨a, b', e1, n1, z1⟩ := low_nm (A := 80000) (B := 12) (t := dx) (b := b) b1 (by lia) hx
    obtain ⟨e, d', e2, n2, z2⟩ := low_nm (A := 80000) (B := 12) (t := dy) (b := d) d1 (by lia) hy
    refine ⟨a, b', e, d', n1, n2, by rcases hz with z | z; exact .inl (z1 z); exact .inr (z2 z), ret_ok (tup2 ?_ ?_)⟩
    · rw [← e1]
      exact call_ok (aC rfl (a1 (ix_ok rfl rfl (atI0 _ _)))) (f_lowest b1 (by lia) (by lia)) rfl
    · rw [← e2]
      exact call_ok (aC rfl (a1 (ix_ok rfl rfl (atI1 _ _ _)))) (f_lowest d1 (by lia) (by lia)) rfl
  obtain ⟨b, d, b1, b2, d1, d2, eb⟩ : ∃ b d : Int, 0 < b ∧ b ≤ 12 ∧ 0 < d ∧ d ≤ 12 ∧ sIf (DL.tB (eOp gEq (eOp gMod (eOp gIx (eVar 1) (eC (.int 5))) (eC (.int 2))) (eC (.int 1)))) (sSet 3 (eLst (aCons (eOp gPlus (eC (.int 1)) (eOp gMod (eOp gIx (eVar 1) (eC (.int 2))) (eC (.int 12)))) (aCons (eOp gPlus (eC (.int 1)) (eOp gMod (eOp gIx (eVar 1) (eC (.int 3))) (eC (.int 12)))) aNil)))) sNil [some (.im (.int c)), some (.im (.lst [.int x0, .int x1, .int x2, .int x3, .int x4, .int x5])), some (.im (.int m)), some (.im (.lst [.int 1, .int 1])), none, none] =
      .ok (.nx [some (.im (.int c)), some (.im (.lst [.int x0, .int x1, .int x2, .int x3, .int x4, .int x5])), some (.im (.int m)), some (.im (.lst [.int b, .int d])), none, none]) := by
    have q0 : 0 ≤ x2 % 12 := Int.emod_nonneg _ (by decide)
    have q1 : x2 % 12 < 12 := Int.emod_lt_of_pos _ (by decide)
    have q2 : 0 ≤ x3 % 12 := Int.emod_nonneg _ (by decide)
    have q3 : x3 % 12 < 12 := Int.emod_lt_of_pos _ (by decide)
    have test : DL.tB (eOp gEq (eOp gMod (eOp gIx (eVar 1) (eC (.int 5))) (eC (.int 2))) (eC (.int 1))) [some (.im (.int c)), some (.im (.lst [.int x0, .int x1, .int x2, .int x3, .int x4, .int x5])), some (.im (.int m)), some (.im (.lst [.int 1, .int 1])), none, none] = .ok (x5 % 2 == 1) := by
      refine tB_b (op_ok (op_ok (ix_ok rfl rfl (d := .int x5) ?_) rfl (gM (by decide))) rfl (eq_int _ _))
      exact atI_nat (j := 5) rfl
    cases hq : (x5 % 2 == 1) with
    | false =>
      rw [hq] at test
      exact ⟨1, 1, by decide, by decide, by decide, by decide, if_skip test⟩
    | true =>
      rw [hq] at test
      refine ⟨1 + x2 % 12, 1 + x3 % 12, by lia, by lia, by lia, by lia, if_take test (set_ok (lst_of (aC ?_ (a1 ?_)) rfl))⟩
      · exact op_ok rfl (op_ok (ix_ok rfl rfl (atI2 _ _ _ _)) rfl (gM (by decide))) rfl
      · exact op_ok rfl (op_ok (ix_ok rfl rfl (atI3 _ _ _ _ _)) rfl (gM (by decide))) rfl
  have part : ∀ (i : Int) (x : Int) (sd : DSt), eOp gIx (eVar 1) (eC (.int i)) sd = .ok (.int x) → eVar 2 sd = .ok (.int m) → eOp gSub (eOp gMod (eOp gIx (eVar 1) (eC (.int i))) (eOp gPlus (eOp gTimes (eC (.int 2)) (eVar 2)) (eC (.int 1)))) (eVar 2) sd = .ok (.int (x % (2 * m + 1) - m)) := fun i x sd hx hm =>
    op_ok (op_ok hx (op_ok (op_ok rfl hm (gT sm2 smm)) rfl (show gPlus _ _ = .ok (.int (2 * m + 1)) from rfl)) (gM (by lia))) hm rfl
  have pre : F__law_step [.int c] = fin' ((sSeq (sSet 4 (eOp gSub (eOp gMod (eOp gIx (eVar 1) (eC (.int 0))) (eOp gPlus (eOp gTimes (eC (.int 2)) (eVar 2)) (eC (.int 1)))) (eVar 2)))
      (sSeq (sSet 5 (eOp gSub (eOp gMod (eOp gIx (eVar 1) (eC (.int 1))) (eOp gPlus (eOp gTimes (eC (.int 2)) (eVar 2)) (eC (.int 1)))) (eVar 2)))
      (sSeq (sIf (DL.tA (DL.tB (eOp gEq (eVar 4) (eC (.int 0)))) (DL.tB (eOp gEq (eVar 5) (eC (.int 0))))) (sSet 4 (eC (.int 1))) sNil)
      (sRet (eTup (aCons (eCall F__law_lowest (aCons (eVar 4) (aCons (eOp gIx (eVar 3) (eC (.int 0))) aNil))) (aCons (eCall F__law_lowest (aCons (eVar 5) (aCons (eOp gIx (eVar 3) (eC (.int 1))) aNil))) aNil))))))) [some (.im (.int c)), some (.im (.lst [.int x0, .int x1, .int x2, .int x3, .int x4, .int x5])), some (.im (.int m)), some (.im (.lst [.int b, .int d])), none, none]) := by
    refine (fn1 _ _ _).trans (congrArg fin' ?_)
    refine go (set_ok (call_ok (d := .lst [.int x0, .int x1, .int x2, .int x3, .int x4, .int x5]) (aC rfl (a1 rfl)) hn rfl)) (go (set_ok (ix_ok (lst_of (aC rfl (aC rfl (aC rfl (a1 rfl)))) rfl) (op_ok (ix_ok rfl rfl (atI4 _ _ _ _ _ _)) rfl (gM (by decide))) em)) (go (set_ok (lst_of (aC rfl (a1 rfl)) rfl)) (go eb rfl)))
  have s4 : ∀ (sd : DSt) (dx : Int), sd[4]? = some (some (.im (.int dx))) → DL.tB (eOp gEq (eVar 4) (eC (.int 0))) sd = .ok (dx == 0) := fun sd dx h => tB_b (op_ok (by unfold eVar; rw [h]) rfl (eq_int _ _))
  have s5 : ∀ (sd : DSt) (dx : Int), sd[5]? = some (some (.im (.int dx))) → DL.tB (eOp gEq (eVar 5) (eC (.int 0))) sd = .ok (dx == 0) := fun sd dx h => tB_b (op_ok (by unfold eVar; rw [h]) rfl (eq_int _ _))
  by_cases hz : x0 % (2 * m + 1) - m = 0 ∧ x1 % (2 * m + 1) - m = 0
  · obtain ⟨a, b', e, d', n1, n2, z, r⟩ := fin b d 1 (x1 % (2 * m + 1) - m) b1 b2 d1 d2 (by decide) (by lia) (.inl (by decide))
    refine ⟨a, b', e, d', n1, n2, z, pre.trans (fin_of (go (set_ok (part 0 x0 _ (ix_ok rfl rfl (atI0 _ _)) rfl)) (go (set_ok (part 1 x1 _ (ix_ok rfl rfl (atI1 _ _ _)) rfl)) (go (if_take (tA_t ((s4 _ _ rfl).trans ?_) ((s5 _ _ rfl).trans ?_)) (set_ok rfl)) r))))⟩
    · rw [hz.1]; rfl
    · rw [hz.2]; rfl
  · obtain ⟨a, b', e, d', n1, n2, z, r⟩ := fin b d (x0 % (2 * m + 1) - m) (x1 % (2 * m + 1) - m) b1 b2 d1 d2 (by lia) (by lia) (by lia)
    refine ⟨a, b', e, d', n1, n2, z, pre.trans (fin_of (go (set_ok (part 0 x0 _ (ix_ok rfl rfl (atI0 _ _)) rfl)) (go (set_ok (part 1 x1 _ (ix_ok rfl rfl (atI1 _ _ _)) rfl)) (go (if_skip ?_) r))))⟩
    rw [tA_b (s4 _ _ rfl) (s5 _ _ rfl)]
    congr 1
    rw [Bool.and_eq_false_iff]
    rcases (by lia : x0 % (2 * m + 1) - m ≠ 0 ∨ x1 % (2 * m + 1) - m ≠ 0) with z | z
    · exact .inl (beq_false_of_ne z)
    · exact .inr (beq_false_of_ne z)
/-! ### directions -/
def dirP (a b c d : Int) : Int := a * d / (Int.gcd (a * d) (c * b) : Nat)
def dirQ (a b c d : Int) : Int := c * b / (Int.gcd (a * d) (c * b) : Nat)
/-- a step -/
structure Stp (a b c d : Int) : Prop where
  n1 : Nm 80000 24 a b
  n2 : Nm 80000 24 c d
  nz : a ≠ 0 ∨ c ≠ 0
theorem Stp.p {a b c d : Int} (s : Stp a b c d) : (a * d).natAbs ≤ 1920000 ∧ (c * b).natAbs ≤ 1920000 ∧ (a * d ≠ 0 ∨ c * b ≠ 0) := by
  refine ⟨?_, ?_, ?_⟩
  · rw [Int.natAbs_mul]
    have h2 : d.natAbs ≤ 24 := by have := s.n2.bot; have := s.n2.pos; lia
    exact Nat.mul_le_mul s.n1.top h2
  · rw [Int.natAbs_mul]
    have h2 : b.natAbs ≤ 24 := by have := s.n1.bot; have := s.n1.pos; lia
    exact Nat.mul_le_mul s.n2.top h2
  · rcases s.nz with z | z
    · exact .inl (Int.mul_ne_zero z (by have := s.n2.pos; lia))
    · exact .inr (Int.mul_ne_zero z (by have := s.n1.pos; lia))
theorem f_dir {a b c d : Int} (s : Stp a b c d) : F_direction [.tup [nD a b, nD c d]] = .ok (.im (nD (dirP a b c d) (dirQ a b c d))) := by
  obtain ⟨p1, p2, p3⟩ := s.p
  have gp := gcd_pos (t := a * d) (b := c * b) (by lia)
  have gs := gcd_sm (t := a * d) (b := c * b) (by lia) (by lia)
  have sa : sm a = true := smI (by have := s.n1.top; lia) (by have := s.n1.top; lia)
  have sb : sm b = true := smI (by have := s.n1.pos; lia) (by have := s.n1.bot; lia)
  have sc : sm c = true := smI (by have := s.n2.top; lia) (by have := s.n2.top; lia)
  have sd : sm d = true := smI (by have := s.n2.pos; lia) (by have := s.n2.bot; lia)
  refine (fn1 _ _ _).trans (fin_of (go (set_ok (d := .int (a * d)) (op_ok (ixt_ok (ixt_ok rfl rfl (atI0 _ _)) rfl (atI0 _ _)) (ixt_ok (ixt_ok rfl rfl (atI1 _ _ _)) rfl (atI1 _ _ _)) (gT sa sd))) (go (set_ok (d := .int (c * b)) (op_ok (ixt_ok (ixt_ok rfl rfl (atI1 _ _ _)) rfl (atI0 _ _)) (ixt_ok (ixt_ok rfl rfl (atI0 _ _)) rfl (atI1 _ _ _)) (gT sc sb))) (go (set_ok (call_ok (aC rfl (a1 rfl)) (f_cd (a * d) (c * b)) rfl)) (ret_ok (tup2 (op_ok rfl rfl (gFd gp gs)) (op_ok rfl rfl (gFd gp gs))))))))
/-- a direction -/
structure Dr (u v : Int) : Prop where
  cop : Int.gcd u v = 1
  u : u.natAbs ≤ 1920000
  v : v.natAbs ≤ 1920000
theorem Dr.nz {u v : Int} (h : Dr u v) : u ≠ 0 ∨ v ≠ 0 := by
  rcases Classical.em (u = 0 ∧ v = 0) with ⟨rfl, rfl⟩ | z
  · have := h.cop; simp at this
  · lia
theorem dir_ok {a b c d : Int} (s : Stp a b c d) : Dr (dirP a b c d) (dirQ a b c d) ∧ ∃ g : Int, 0 < g ∧ a * d = g * dirP a b c d ∧ c * b = g * dirQ a b c d := by
  obtain ⟨p1, p2, p3⟩ := s.p
  have gp := gcd_pos (t := a * d) (b := c * b) (by lia)
  obtain ⟨u, eu⟩ : ((Int.gcd (a * d) (c * b) : Nat) : Int) ∣ a * d := Int.gcd_dvd_left _ _
  obtain ⟨v, ev⟩ : ((Int.gcd (a * d) (c * b) : Nat) : Int) ∣ c * b := Int.gcd_dvd_right _ _
  have eP : dirP a b c d = u := by
    unfold dirP
    conv => lhs; lhs; rw [eu]
    exact Int.mul_ediv_cancel_left u (by lia)
  have eQ : dirQ a b c d = v := by
    unfold dirQ
    conv => lhs; lhs; rw [ev]
    exact Int.mul_ediv_cancel_left v (by lia)
  rw [eP, eQ]
  have eg : Int.gcd (a * d) (c * b) = Int.gcd (a * d) (c * b) * Int.gcd u v := by
    have e1 := Int.gcd_mul_left ((Int.gcd (a * d) (c * b) : Nat) : Int) u v
    rw [← eu, ← ev] at e1
    simpa using e1
  have hgN : 0 < Int.gcd (a * d) (c * b) := by lia
  have le : ∀ x : Int, x.natAbs ≤ (((Int.gcd (a * d) (c * b) : Nat) : Int) * x).natAbs := fun x => by
    rw [Int.natAbs_mul]
    exact Nat.le_mul_of_pos_left _ (by lia)
  refine ⟨⟨?_, ?_, ?_⟩, _, gp, eu, ev⟩
  · refine Nat.eq_of_mul_eq_mul_left hgN ?_
    rw [Nat.mul_one]; exact eg.symm
  · have := le u; rw [← eu] at this; lia
  · have := le v; rw [← ev] at this; lia
theorem f_whole (i : Int) : F__law_whole [.int i] = .ok (.im (.bl true)) := rfl
theorem ne_int (a b : Int) : gNe (.int a) (.int b) = .ok (.bl (!(a == b))) := by rw [gNe_b (by simp [D.dep])]; simp only [D.eq]
theorem f_same {a b c d : Int} (s : Stp a b c d) : F__law_same_way [nD (dirP a b c d) (dirQ a b c d), .tup [nD a b, nD c d]] = .ok (.im (.bl true)) := by
  obtain ⟨dr, g, gp, e1, e2⟩ := dir_ok s
  obtain ⟨p1, p2, p3⟩ := s.p
  generalize dirP a b c d = u at *
  generalize dirQ a b c d = v at *
  have sa : sm a = true := smI (by have := s.n1.top; lia) (by have := s.n1.top; lia)
  have sb : sm b = true := smI (by have := s.n1.pos; lia) (by have := s.n1.bot; lia)
  have sc : sm c = true := smI (by have := s.n2.top; lia) (by have := s.n2.top; lia)
  have sd : sm d = true := smI (by have := s.n2.pos; lia) (by have := s.n2.bot; lia)
  have su : sm u = true := smI (by have := dr.u; lia) (by have := dr.u; lia)
  have sv : sm v = true := smI (by have := dr.v; lia) (by have := dr.v; lia)
  have sp : sm (a * d) = true := smI (by lia) (by lia)
  have sq : sm (c * b) = true := smI (by lia) (by lia)
  refine (fn2 _ _ _ _).trans (fin_of (go (asg2 rfl) (go (set_ok (d := .int (a * d)) (op_ok (ixt_ok rfl rfl (atI0 _ _)) (ixt_ok rfl rfl (atI1 _ _ _)) (gT sa sd))) (go (set_ok (d := .int (c * b)) (op_ok (ixt_ok rfl rfl (atI0 _ _)) (ixt_ok rfl rfl (atI1 _ _ _)) (gT sc sb))) (go (if_skip ?_) (go (if_skip ?_) (ret_ok ?_)))))))
  · refine tO_ff (tN_t (tB_b rfl)) (tO_ff (tB_b (op_ok (cb_ok (a1 rfl) rfl) rfl rfl)) (tO_ff (tN_t (tB_b (call_ok (a1 (ixt_ok rfl rfl (atI0 _ _))) (f_whole _) rfl))) (tN_t (tB_b (call_ok (a1 (ixt_ok rfl rfl (atI1 _ _ _))) (f_whole _) rfl)))))
  · refine tO_ff (tB_b ?_) (tB_b ?_)
    · refine (op_ok (call_ok (aC (ixt_ok rfl rfl (atI0 _ _)) (a1 (ixt_ok rfl rfl (atI1 _ _ _)))) (f_lg u v) rfl) rfl (ne_int _ _)).trans ?_
      rw [dr.cop]; rfl
    · refine (op_ok (op_ok (ixt_ok rfl rfl (atI0 _ _)) rfl (gT su sq)) (op_ok (ixt_ok rfl rfl (atI1 _ _ _)) rfl (gT sv sp)) (ne_int _ _)).trans ?_
      have : u * (c * b) = v * (a * d) := by rw [e1, e2, Int.mul_left_comm u g v, Int.mul_left_comm v g u, Int.mul_comm u v]
      rw [this]; simp
  · refine (op_ok (op_ok (op_ok (ixt_ok rfl rfl (atI0 _ _)) rfl (gT su sp)) (op_ok (ixt_ok rfl rfl (atI1 _ _ _)) rfl (gT sv sq)) (show gPlus _ _ = .ok (.int (u * (a * d) + v * (c * b))) from rfl)) rfl (show gGt _ _ = .ok (.bl (decide (0 < u * (a * d) + v * (c * b)))) from rfl)).trans ?_
    have : 0 < u * (a * d) + v * (c * b) := by
      rw [e1, e2, Int.mul_left_comm u g u, Int.mul_left_comm v g v, ← Int.mul_add]
      refine Int.mul_pos gp ?_
      have h1 : 0 ≤ u * u := by
        rcases Int.le_total 0 u with h | h
        · exact Int.mul_nonneg h h
        · exact Int.mul_nonneg_of_nonpos_of_nonpos h h
      have h2 : 0 ≤ v * v := by
        rcases Int.le_total 0 v with h | h
        · exact Int.mul_nonneg h h
        · exact Int.mul_nonneg_of_nonpos_of_nonpos h h
      rcases dr.nz with z | z
      · have h3 := Int.mul_ne_zero z z
        generalize u * u = x at h1 h3 ⊢
        generalize v * v = y at h2 ⊢
        omega
      · have h3 := Int.mul_ne_zero z z
        generalize v * v = x at h2 h3 ⊢
        generalize u * u = y at h1 ⊢
        omega
    rw [decide_eq_true this]
end Law

set_option maxRecDepth 100000
set_option maxHeartbeats 4000000
set_option linter.all false
namespace Law
open PySem L2 DL
/-! ### the place in turn -/
def qt (u v : Int) : Int := if 0 < u ∧ 0 ≤ v then 0 else if 0 < v then 1 else if u < 0 then 2 else 3
def ah (u v : Int) : Nat := if qt u v = 0 ∨ qt u v = 2 then u.natAbs else v.natAbs
def lf (u v : Int) : Nat := if qt u v = 0 ∨ qt u v = 2 then v.natAbs else u.natAbs
theorem qt_cases {u v : Int} (h : Dr u v) : (qt u v = 0 ∧ 0 < u ∧ 0 ≤ v) ∨ (qt u v = 1 ∧ 0 < v ∧ u ≤ 0) ∨ (qt u v = 2 ∧ u < 0 ∧ v ≤ 0) ∨ (qt u v = 3 ∧ v < 0 ∧ 0 ≤ u) := by
  have := h.nz
  unfold qt
  by_cases h1 : 0 < u ∧ 0 ≤ v
  · rw [if_pos h1]; exact .inl ⟨rfl, h1⟩
  · rw [if_neg h1]
    by_cases h2 : 0 < v
    · rw [if_pos h2]; exact .inr (.inl ⟨rfl, h2, by lia⟩)
    · rw [if_neg h2]
      by_cases h3 : u < 0
      · rw [if_pos h3]; exact .inr (.inr (.inl ⟨rfl, h3, by lia⟩))
      · rw [if_neg h3]; exact .inr (.inr (.inr ⟨rfl, by lia, by lia⟩))
theorem ah_lf {u v : Int} (h : Dr u v) : 0 < ah u v ∧ Nat.Coprime (lf u v) (ah u v) ∧ ((ah u v = u.natAbs ∧ lf u v = v.natAbs) ∨ (ah u v = v.natAbs ∧ lf u v = u.natAbs)) := by
  have cop : Nat.gcd u.natAbs v.natAbs = 1 := h.cop
  have cop' : Nat.gcd v.natAbs u.natAbs = 1 := by rw [Nat.gcd_comm]; exact cop
  rcases qt_cases h with ⟨q, h1, h2⟩ | ⟨q, h1, h2⟩ | ⟨q, h1, h2⟩ | ⟨q, h1, h2⟩ <;> unfold ah lf <;> rw [q]
  · exact ⟨by simp; lia, by simpa using cop', .inl ⟨rfl, rfl⟩⟩
  · exact ⟨by simp; lia, by simpa using cop, .inr ⟨rfl, rfl⟩⟩
  · exact ⟨by simp; lia, by simpa using cop', .inl ⟨rfl, rfl⟩⟩
  · exact ⟨by simp; lia, by simpa using cop, .inr ⟨rfl, rfl⟩⟩
theorem f_quarter (u v : Int) : F_quarter [nD u v] = .ok (.im (.int (qt u v))) := by
  have e0 : ∀ sd : DSt, eVar 0 sd = .ok (nD u v) → eOp gIx (eVar 0) (eC (.int 0)) sd = .ok (.int u) := fun sd h => ixt_ok h rfl (atI0 _ _)
  have e1 : ∀ sd : DSt, eVar 0 sd = .ok (nD u v) → eOp gIx (eVar 0) (eC (.int 1)) sd = .ok (.int v) := fun sd h => ixt_ok h rfl (atI1 _ _ _)
  have g : ∀ a b : Int, gGt (.int a) (.int b) = .ok (.bl (decide (b < a))) := fun _ _ => rfl
  have ge : ∀ a b : Int, gGe (.int a) (.int b) = .ok (.bl (decide (b ≤ a))) := fun _ _ => rfl
  have l : ∀ a b : Int, gLt (.int a) (.int b) = .ok (.bl (decide (a < b))) := fun _ _ => rfl
  have t1 : DL.tA (DL.tB (eOp gGt (eOp gIx (eVar 0) (eC (.int 0))) (eC (.int 0)))) (DL.tB (eOp gGe (eOp gIx (eVar 0) (eC (.int 1))) (eC (.int 0)))) [some (.im (nD u v))] = .ok (decide (0 < u) && decide (0 ≤ v)) := tA_b (tB_b (op_ok (e0 _ rfl) rfl (g _ _))) (tB_b (op_ok (e1 _ rfl) rfl (ge _ _)))
  have t2 : DL.tB (eOp gGt (eOp gIx (eVar 0) (eC (.int 1))) (eC (.int 0))) [some (.im (nD u v))] = .ok (decide (0 < v)) := tB_b (op_ok (e1 _ rfl) rfl (g _ _))
  have t3 : DL.tB (eOp gLt (eOp gIx (eVar 0) (eC (.int 0))) (eC (.int 0))) [some (.im (nD u v))] = .ok (decide (u < 0)) := tB_b (op_ok (e0 _ rfl) rfl (l _ _))
  refine (fn1 _ _ _).trans (fin_of ?_)
  unfold qt
  by_cases h1 : 0 < u ∧ 0 ≤ v
  · rw [if_pos h1]
    exact sSeq_rt (if_take (t1.trans (by rw [decide_eq_true h1.1, decide_eq_true h1.2]; rfl)) (ret_ok rfl))
  · rw [if_neg h1]
    refine go (if_skip (t1.trans (by congr 1; rw [Bool.and_eq_false_iff]; rcases (by lia : ¬ 0 < u ∨ ¬ 0 ≤ v) with z | z; exact .inl (decide_eq_false z); exact .inr (decide_eq_false z)))) ?_
    by_cases h2 : 0 < v
    · rw [if_pos h2]
      exact sSeq_rt (if_take (t2.trans (by rw [decide_eq_true h2])) (ret_ok rfl))
    · rw [if_neg h2]
      refine go (if_skip (t2.trans (by rw [decide_eq_false h2]))) ?_
      by_cases h3 : u < 0
      · rw [if_pos h3]
        exact sSeq_rt (if_take (t3.trans (by rw [decide_eq_true h3])) (ret_ok rfl))
      · rw [if_neg h3]
        exact go (if_skip (t3.trans (by rw [decide_eq_false h3]))) (ret_ok rfl)
def kN (S : Nat) (u v : Int) : Int := ((lf u v * S / ah u v : Nat) : Int)
theorem f_place {u v : Int} (h : Dr u v) {S : Nat} (hS : S ≤ 10000000000000) : F_place_in_turn [nD u v, .int (S : Int)] = .ok (.im (nD (qt u v) (kN S u v))) := by
  obtain ⟨hp, _, hc⟩ := ah_lf h
  have hu := h.u
  have hv := h.v
  have sS : sm (S : Int) = true := sm30 (by lia) (by lia)
  have key : ∀ x y : Int, x = (ah u v : Int) → y = (lf u v : Int) → eTup (aCons (eVar 2) (aCons (eOp gFdiv (eOp gTimes (eVar 4) (eVar 1)) (eVar 3)) aNil)) [some (.im (nD u v)), some (.im (.int (S : Int))), some (.im (.int (qt u v))), some (.im (.int x)), some (.im (.int y))] = .ok (nD (qt u v) (kN S u v)) := fun x y ex ey => by
    subst ex ey
    refine tup2 rfl ((op_ok (op_ok rfl rfl (gT (smI (by lia) (by lia)) sS)) rfl (gFd (by lia) (smI (by lia) (by lia)))).trans ?_)
    unfold kN
    rw [Int.natCast_ediv, Int.natCast_mul]
  have m0 : gMod (.int 0) (.int 2) = .ok (.int 0) := rfl
  refine (fn2 _ _ _ _).trans (fin_of (go (set_ok (call_ok (a1 rfl) (f_quarter u v) rfl)) ?_))
  rcases qt_cases h with ⟨q, h1, h2⟩ | ⟨q, h1, h2⟩ | ⟨q, h1, h2⟩ | ⟨q, h1, h2⟩ <;> rw [q] at key ⊢
  · refine go (set_ok (cb_ok (a1 (ixt_ok (d := .int u) rfl (op_ok rfl rfl (show gMod (.int 0) (.int 2) = .ok (.int 0) from rfl)) (atI0 _ _))) (abs_ok u))) (go (set_ok (cb_ok (a1 (ixt_ok (d := .int v) rfl (op_ok rfl (op_ok rfl rfl (show gMod (.int 0) (.int 2) = .ok (.int 0) from rfl)) (show DL.gSub (.int 1) (.int 0) = .ok (.int 1) from rfl)) (atI1 _ _ _))) (abs_ok v))) (ret_ok (key _ _ ?_ ?_)))
    · unfold ah; rw [q]; simp
    · unfold lf; rw [q]; simp
  · refine go (set_ok (cb_ok (a1 (ixt_ok (d := .int v) rfl (op_ok rfl rfl (show gMod (.int 1) (.int 2) = .ok (.int 1) from rfl)) (atI1 _ _ _))) (abs_ok v))) (go (set_ok (cb_ok (a1 (ixt_ok (d := .int u) rfl (op_ok rfl (op_ok rfl rfl (show gMod (.int 1) (.int 2) = .ok (.int 1) from rfl)) (show DL.gSub (.int 1) (.int 1) = .ok (.int 0) from rfl)) (atI0 _ _))) (abs_ok u))) (ret_ok (key _ _ ?_ ?_)))
    · unfold ah; rw [q]; simp
    · unfold lf; rw [q]; simp
  · refine go (set_ok (cb_ok (a1 (ixt_ok (d := .int u) rfl (op_ok rfl rfl (show gMod (.int 2) (.int 2) = .ok (.int 0) from rfl)) (atI0 _ _))) (abs_ok u))) (go (set_ok (cb_ok (a1 (ixt_ok (d := .int v) rfl (op_ok rfl (op_ok rfl rfl (show gMod (.int 2) (.int 2) = .ok (.int 0) from rfl)) (show DL.gSub (.int 1) (.int 0) = .ok (.int 1) from rfl)) (atI1 _ _ _))) (abs_ok v))) (ret_ok (key _ _ ?_ ?_)))
    · unfold ah; rw [q]; simp
    · unfold lf; rw [q]; simp
  · refine go (set_ok (cb_ok (a1 (ixt_ok (d := .int v) rfl (op_ok rfl rfl (show gMod (.int 3) (.int 2) = .ok (.int 1) from rfl)) (atI1 _ _ _))) (abs_ok v))) (go (set_ok (cb_ok (a1 (ixt_ok (d := .int u) rfl (op_ok rfl (op_ok rfl rfl (show gMod (.int 3) (.int 2) = .ok (.int 1) from rfl)) (show DL.gSub (.int 1) (.int 1) = .ok (.int 0) from rfl)) (atI0 _ _))) (abs_ok u))) (ret_ok (key _ _ ?_ ?_)))
    · unfold ah; rw [q]; simp
    · unfold lf; rw [q]; simp
/-! ### the keys differ -/
theorem key_inj {G l1 a1 l2 a2 : Nat} (p1 : 0 < a1) (p2 : 0 < a2) (b1 : a1 ≤ G) (b2 : a2 ≤ G) (c1 : Nat.Coprime l1 a1) (c2 : Nat.Coprime l2 a2) (e : l1 * (G * G) / a1 = l2 * (G * G) / a2) : l1 = l2 ∧ a1 = a2 := by
  have half : ∀ {l1 a1 l2 a2 : Nat}, 0 < a1 → 0 < a2 → a1 ≤ G → a2 ≤ G → l1 * (G * G) / a1 = l2 * (G * G) / a2 → ¬ l1 * a2 < l2 * a1 := by
    intro l1 a1 l2 a2 p1 p2 b1 b2 e h
    generalize hS : G * G = S at e
    have hx1 : l1 * S / a1 * a1 ≤ l1 * S := Nat.div_mul_le_self _ _
    have hx2 : l2 * S < (l2 * S / a2 + 1) * a2 := by
      have := Nat.lt_mul_div_succ (l2 * S) p2
      rw [Nat.mul_comm (l2 * S / a2 + 1) a2]; exact this
    rw [← e] at hx2
    generalize l1 * S / a1 = x at hx1 hx2
    have hm : a1 * a2 ≤ S := by rw [← hS]; exact Nat.mul_le_mul b1 b2
    have h1 : l2 * S * a1 < (x + 1) * a2 * a1 := Nat.mul_lt_mul_of_pos_right hx2 p1
    have h2 : x * a1 * a2 ≤ l1 * S * a2 := Nat.mul_le_mul_right _ hx1
    have h3 : (x + 1) * a2 * a1 = x * a1 * a2 + a1 * a2 := by
      rw [Nat.add_mul, Nat.add_mul, Nat.one_mul, Nat.mul_right_comm x a2 a1, Nat.mul_comm a2 a1]
    have h4 : (l1 * a2 + 1) * S ≤ l2 * a1 * S := Nat.mul_le_mul_right _ h
    rw [Nat.add_mul, Nat.one_mul] at h4
    rw [Nat.mul_right_comm l1 S a2] at h2
    rw [Nat.mul_right_comm l2 S a1] at h1
    generalize l2 * a1 * S = A at *
    generalize l1 * a2 * S = B at *
    generalize (x + 1) * a2 * a1 = C at *
    generalize x * a1 * a2 = D' at *
    generalize a1 * a2 = F at *
    omega
  have e1 := half p1 p2 b1 b2 e
  have e2 := half p2 p1 b2 b1 e.symm
  have eq : l1 * a2 = l2 * a1 := by omega
  have d1 : a1 ∣ a2 := (Nat.Coprime.symm c1).dvd_of_dvd_mul_left (by rw [eq]; exact Nat.dvd_mul_left _ _)
  have d2 : a2 ∣ a1 := (Nat.Coprime.symm c2).dvd_of_dvd_mul_left (by rw [← eq]; exact Nat.dvd_mul_left _ _)
  have ea : a1 = a2 := Nat.dvd_antisymm d1 d2
  subst ea
  exact ⟨Nat.eq_of_mul_eq_mul_right p1 eq, rfl⟩
theorem key_lt {S l1 a1 l2 a2 : Nat} (p1 : 0 < a1) (p2 : 0 < a2) (e : l1 * S / a1 < l2 * S / a2) : l1 * a2 < l2 * a1 := by
  rcases Nat.lt_or_ge (l1 * a2) (l2 * a1) with h | h
  · exact h
  · exfalso
    have : l2 * S / a2 ≤ l1 * S / a1 := by
      rw [Nat.le_div_iff_mul_le p1]
      have hx : l2 * S / a2 * a2 ≤ l2 * S := Nat.div_mul_le_self _ _
      generalize l2 * S / a2 = x at hx
      refine Nat.le_of_mul_le_mul_right (c := a2) ?_ p2
      have h1 : x * a2 * a1 ≤ l2 * S * a1 := Nat.mul_le_mul_right _ hx
      have h2 : l2 * a1 * S ≤ l1 * a2 * S := Nat.mul_le_mul_right _ h
      rw [Nat.mul_right_comm x a1 a2, Nat.mul_right_comm l1 S a2]
      rw [Nat.mul_right_comm l2 S a1] at h1
      exact Nat.le_trans h1 h2
    omega
theorem same_of {G : Nat} {u v x y : Int} (h : Dr u v) (h' : Dr x y) (b1 : u.natAbs ≤ G ∧ v.natAbs ≤ G) (b2 : x.natAbs ≤ G ∧ y.natAbs ≤ G) (eq : qt u v = qt x y) (ek : kN (G * G) u v = kN (G * G) x y) : u = x ∧ v = y := by
  obtain ⟨p1, c1, o1⟩ := ah_lf h
  obtain ⟨p2, c2, o2⟩ := ah_lf h'
  unfold kN at ek
  obtain ⟨e1, e2⟩ := key_inj (G := G) p1 p2 (by lia) (by lia) c1 c2 (by lia)
  have q1 := qt_cases h
  have q2 := qt_cases h'
  have a1 : (qt u v = 0 ∨ qt u v = 2) → ah u v = u.natAbs ∧ lf u v = v.natAbs ∧ ah x y = x.natAbs ∧ lf x y = y.natAbs := fun z => by
    unfold ah lf
    rw [← eq, if_pos z, if_pos z, if_pos z, if_pos z]
    exact ⟨rfl, rfl, rfl, rfl⟩
  have a2 : ¬ (qt u v = 0 ∨ qt u v = 2) → ah u v = v.natAbs ∧ lf u v = u.natAbs ∧ ah x y = y.natAbs ∧ lf x y = x.natAbs := fun z => by
    unfold ah lf
    rw [← eq, if_neg z, if_neg z, if_neg z, if_neg z]
    exact ⟨rfl, rfl, rfl, rfl⟩
  by_cases z : qt u v = 0 ∨ qt u v = 2
  · obtain ⟨r1, r2, r3, r4⟩ := a1 z
    rw [r1, r3] at e2
    rw [r2, r4] at e1
    clear a1 a2 r1 r2 r3 r4 o1 o2 ek p1 p2 c1 c2 h h' b1 b2
    generalize qt u v = q at *
    generalize qt x y = q' at *
    omega
  · obtain ⟨r1, r2, r3, r4⟩ := a2 z
    rw [r1, r3] at e2
    rw [r2, r4] at e1
    clear a1 a2 r1 r2 r3 r4 o1 o2 ek p1 p2 c1 c2 h h' b1 b2
    generalize qt u v = q at *
    generalize qt x y = q' at *
    omega
theorem cross_of {S : Nat} {u v x y : Int} (h : Dr u v) (h' : Dr x y) (eq : qt u v = qt x y) (ek : kN S u v < kN S x y) : v * x < u * y := by
  obtain ⟨p1, _, _⟩ := ah_lf h
  obtain ⟨p2, _, _⟩ := ah_lf h'
  unfold kN at ek
  have k := key_lt (S := S) p1 p2 (Int.ofNat_lt.mp ek)
  have k' : (lf u v : Int) * (ah x y : Int) < (lf x y : Int) * (ah u v : Int) := by
    rw [← Int.natCast_mul, ← Int.natCast_mul]; lia
  have ng : ∀ i : Int, i ≤ 0 → (i.natAbs : Int) = -i := fun i hi => by lia
  have ps : ∀ i : Int, 0 ≤ i → (i.natAbs : Int) = i := fun i hi => by lia
  rcases qt_cases h with ⟨q, h1, h2⟩ | ⟨q, h1, h2⟩ | ⟨q, h1, h2⟩ | ⟨q, h1, h2⟩ <;> rcases qt_cases h' with ⟨q', h3, h4⟩ | ⟨q', h3, h4⟩ | ⟨q', h3, h4⟩ | ⟨q', h3, h4⟩ <;> first | (exfalso; rw [q, q'] at eq; exact absurd eq (by decide)) | skip
  · unfold lf ah at k'
    rw [q, q'] at k'
    simp only [true_or, if_true] at k'
    rw [ps v h2, ps x (by lia), ps y h4, ps u (by lia)] at k'
    rw [Int.mul_comm y u] at k'
    exact k'
  · unfold lf ah at k'
    rw [q, q'] at k'
    rw [if_neg (by decide), if_neg (by decide), if_neg (by decide), if_neg (by decide)] at k'
    rw [ng u h2, ps y (by lia), ng x h4, ps v (by lia), Int.neg_mul, Int.neg_mul, Int.mul_comm x v] at k'
    generalize v * x = A at *
    generalize u * y = B at *
    omega
  · unfold lf ah at k'
    rw [q, q'] at k'
    rw [if_pos (by decide), if_pos (by decide), if_pos (by decide), if_pos (by decide)] at k'
    rw [ng v h2, ng x (by lia), ng y h4, ng u (by lia), Int.neg_mul_neg, Int.neg_mul_neg, Int.mul_comm y u] at k'
    exact k'
  · unfold lf ah at k'
    rw [q, q'] at k'
    rw [if_neg (by decide), if_neg (by decide), if_neg (by decide), if_neg (by decide)] at k'
    rw [ps u h2, ng y (by lia), ps x h4, ng v (by lia), Int.mul_neg, Int.mul_neg, Int.mul_comm x v] at k'
    generalize v * x = A at *
    generalize u * y = B at *
    omega
end Law

set_option maxRecDepth 100000
set_option maxHeartbeats 4000000
set_option linter.all false
namespace Law
open PySem L2 DL
abbrev Pr := Int × Int
def pD (p : Pr) : D := nD p.1 p.2
def kP (p : Pr) : List Key := [.inl p.1, .inl p.2]
theorem kP_inj {p q : Pr} (h : kP p = kP q) : p = q := by
  unfold kP at h
  injection h with h1 h2
  injection h2 with h2 _
  injection h1 with h1
  injection h2 with h2
  exact Prod.ext h1 h2
def dd (l : List Pr) (p : Pr) : List Pr := if p ∈ l then l else l ++ [p]
def ddL (l : List Pr) : List Pr → List Pr
  | [] => l
  | p :: r => ddL (dd l p) r
theorem dd_nodup {l : List Pr} {p : Pr} (h : l.Nodup) : (dd l p).Nodup := by
  unfold dd
  split
  · exact h
  · rename_i hp
    exact List.nodup_append.mpr ⟨h, by simp, fun a ha b hb => by
      have : b = p := by simpa using hb
      rintro rfl
      exact hp (this ▸ ha)⟩
theorem dd_mem {l : List Pr} {p q : Pr} : q ∈ dd l p ↔ q ∈ l ∨ q = p := by
  unfold dd
  split
  · rename_i hp
    constructor
    · exact .inl
    · rintro (h | rfl)
      · exact h
      · exact hp
  · rw [List.mem_append]; simp
theorem ddL_nodup : ∀ (m l : List Pr), l.Nodup → (ddL l m).Nodup
  | [], l, h => h
  | p :: r, l, h => ddL_nodup r _ (dd_nodup h)
theorem ddL_mem : ∀ (m l : List Pr) (q : Pr), q ∈ ddL l m ↔ q ∈ l ∨ q ∈ m
  | [], l, q => by simp [ddL]
  | p :: r, l, q => by
    rw [ddL, ddL_mem r, dd_mem, List.mem_cons]
    constructor
    · rintro ((h | h) | h)
      · exact .inl h
      · exact .inr (.inl h)
      · exact .inr (.inr h)
    · rintro (h | h | h)
      · exact .inl (.inl h)
      · exact .inl (.inr h)
      · exact .inr h
theorem ddL_len : ∀ (m l : List Pr), (ddL l m).length ≤ l.length + m.length
  | [], l => by simp [ddL]
  | p :: r, l => by
    have := ddL_len r (dd l p)
    have h2 : (dd l p).length ≤ l.length + 1 := by
      unfold dd
      split
      · lia
      · simp
    rw [ddL, List.length_cons]
    lia
def kvs (l : List Pr) : List (List Key × D) := l.map fun p => (kP p, D.bl true)
theorem put_kvs (l : List Pr) (p : Pr) : putD (kvs l) (kP p) (D.bl true) = kvs (dd l p) := by
  unfold putD dd
  have hany : ((kvs l).any fun kv => decide (kv.1 = kP p)) = decide (p ∈ l) := by
    rw [Bool.eq_iff_iff, List.any_eq_true, decide_eq_true_iff]
    unfold kvs
    constructor
    · rintro ⟨kv, h1, h2⟩
      obtain ⟨q, hq, rfl⟩ := List.mem_map.mp h1
      have := kP_inj (of_decide_eq_true h2)
      rw [← this]; exact hq
    · exact fun h => ⟨_, List.mem_map_of_mem h, decide_eq_true rfl⟩
  rw [hany]
  by_cases h : p ∈ l
  · rw [if_pos (decide_eq_true h), if_pos h]
    unfold kvs
    rw [List.map_map]
    refine List.map_congr_left fun q _ => ?_
    show (if kP q = kP p then (kP q, D.bl true) else (kP q, D.bl true)) = _
    split <;> rfl
  · rw [if_neg (by simpa using h), if_neg h]
    unfold kvs
    rw [List.map_append]
    rfl
theorem add_kP (l : List Pr) (p : Pr) : addK (l.map kP) (kP p) = (dd l p).map kP := by
  unfold addK dd
  have hany : ((l.map kP).any fun x => decide (x = kP p)) = decide (p ∈ l) := by
    rw [Bool.eq_iff_iff, List.any_eq_true, decide_eq_true_iff]
    constructor
    · rintro ⟨kv, h1, h2⟩
      obtain ⟨q, hq, rfl⟩ := List.mem_map.mp h1
      have := kP_inj (of_decide_eq_true h2)
      rw [← this]; exact hq
    · exact fun h => ⟨_, List.mem_map_of_mem h, decide_eq_true rfl⟩
  rw [hany]
  by_cases h : p ∈ l
  · rw [if_pos (decide_eq_true h), if_pos h]
  · rw [if_neg (by simpa using h), if_neg h, List.map_append]
    rfl
theorem add_all : ∀ (m l : List Pr), (m.map kP).foldl addK (l.map kP) = (ddL l m).map kP
  | [], l => rfl
  | p :: r, l => by
    rw [List.map_cons, List.foldl_cons, add_kP]
    exact add_all r _
theorem keysT_pD : ∀ m : List Pr, keysT (m.map pD) = some (m.map kP)
  | [] => rfl
  | p :: r => by
    rw [List.map_cons, List.map_cons]
    show (match keysD [.int p.1, .int p.2], keysT (r.map pD) with | some k, some ks => some (k :: ks) | _, _ => none) = _
    rw [keysT_pD r]
    rfl
/-! ### the loop -/
def mx (g : Int) (p : Pr) : Int := max (max g (p.1.natAbs : Int)) (p.2.natAbs : Int)
def mxs (g : Int) : List Pr → Int
  | [] => g
  | p :: r => mxs (mx g p) r
theorem mx_le {g : Int} {p : Pr} {b : Int} (hg : g ≤ b) (h1 : (p.1.natAbs : Int) ≤ b) (h2 : (p.2.natAbs : Int) ≤ b) : mx g p ≤ b := by unfold mx; lia
theorem mx_ge (g : Int) (p : Pr) : g ≤ mx g p ∧ (p.1.natAbs : Int) ≤ mx g p ∧ (p.2.natAbs : Int) ≤ mx g p := by unfold mx; lia
theorem mxs_ge : ∀ (m : List Pr) (g : Int), g ≤ mxs g m ∧ ∀ p ∈ m, (p.1.natAbs : Int) ≤ mxs g m ∧ (p.2.natAbs : Int) ≤ mxs g m
  | [], g => ⟨Int.le_refl _, fun p hp => by cases hp⟩
  | p :: r, g => by
    obtain ⟨h1, h2⟩ := mxs_ge r (mx g p)
    obtain ⟨m1, m2, m3⟩ := mx_ge g p
    refine ⟨by rw [mxs]; lia, fun q hq => ?_⟩
    rw [mxs]
    rcases List.mem_cons.mp hq with rfl | hq
    · lia
    · exact h2 q hq
theorem mxs_le : ∀ (m : List Pr) (g b : Int), g ≤ b → (∀ p ∈ m, (p.1.natAbs : Int) ≤ b ∧ (p.2.natAbs : Int) ≤ b) → mxs g m ≤ b
  | [], g, b, h, _ => h
  | p :: r, g, b, h, hp => mxs_le r _ b (mx_le h (hp p List.mem_cons_self).1 (hp p List.mem_cons_self).2) fun q hq => hp q (List.mem_cons_of_mem _ hq)
def tBody : DSt → M O := sSeq (DL.sDPut 1 (eVar 3) (eC (.bl true)))
      (sSet 2 (eCB bMax (aCons (eVar 2) (aCons (eCB bAbs (aCons (eOp gIx (eVar 3) (eC (.int 0))) aNil)) (aCons (eCB bAbs (aCons (eOp gIx (eVar 3) (eC (.int 1))) aNil)) aNil)))))
theorem dput_ok {i : Nat} {fk fv : DSt → M D} {sd : DSt} {kv : List (List Key × D)} {k v : D} {t : S} (h : sd[i]? = some (some (.od kv))) (hv : fv sd = .ok v) (hk : fk sd = .ok k) (e : dput (some (some (.od kv))) k v = some t) : DL.sDPut i fk fv sd = .ok (.nx (sd.set i (some t))) := by
  unfold DL.sDPut
  rw [h]
  show (if true = true then _ else _) = _
  rw [if_pos rfl, hv, M.bind_ok, hk, M.bind_ok, e]
theorem turn_loop (s0 s4 : Option S) : ∀ (m l : List Pr) (g : Int) (w : Option S), l.length + m.length ≤ 1000 →
    ∃ w', loopD (gNm 3) tBody (m.map pD) [s0, some (.od (kvs l)), some (.im (.int g)), w, s4] = .ok (.nx [s0, some (.od (kvs (ddL l m))), some (.im (.int (mxs g m))), w', s4])
  | [], l, g, w, _ => ⟨w, rfl⟩
  | p :: r, l, g, w, hl => by
    rw [List.length_cons] at hl
    have h2 : (dd l p).length ≤ l.length + 1 := by
      unfold dd
      split
      · lia
      · simp
    obtain ⟨w', ih⟩ := turn_loop s0 s4 r (dd l p) (mx g p) (some (.im (pD p))) (by lia)
    refine ⟨w', ?_⟩
    rw [List.map_cons]
    refine (loop_nx (sd1 := [s0, some (.od (kvs l)), some (.im (.int g)), some (.im (pD p)), s4]) rfl (go (dput_ok (kv := kvs l) (v := .bl true) (k := pD p) (t := .od (kvs (dd l p))) rfl rfl rfl ?_) (set_ok (d := .int (mx g p)) (cb_ok (aC rfl (aC (cb_ok (a1 (ixt_ok (d := .int p.1) rfl rfl (atI0 _ _))) (abs_ok _)) (a1 (cb_ok (a1 (ixt_ok (d := .int p.2) rfl rfl (atI1 _ _ _))) (abs_ok _))))) rfl)))).trans ih
    show (if (kvs l).length ≤ 1000000 then some (S.od (putD (kvs l) (kP p) (D.bl true))) else none) = _
    rw [put_kvs, if_pos (by unfold kvs; rw [List.length_map]; lia)]
/-! ### sorted by the key -/
def kD (S : Nat) (p : Pr) : D := nD (qt p.1 p.2) (kN S p.1 p.2)
def lk (S : Nat) (p : Pr) : List Key := [.inl (qt p.1 p.2), .inl (kN S p.1 p.2)]
theorem keyRow_kD (S : Nat) (p : Pr) : keyRow (kD S p) = lk S p := rfl
def insQ (S : Nat) (p : Pr) : List Pr → List Pr
  | [] => [p]
  | q :: r => if lexK (lk S q) (lk S p) = true then q :: insQ S p r else p :: q :: r
def sortQ (S : Nat) : List Pr → List Pr
  | [] => []
  | p :: r => insQ S p (sortQ S r)
theorem insP_eq (S : Nat) (p : Pr) : ∀ l : List Pr, insP (kD S p, pD p) (l.map fun q => (kD S q, pD q)) = (insQ S p l).map fun q => (kD S q, pD q)
  | [] => rfl
  | q :: r => by
    rw [List.map_cons, insP, insQ, keyRow_kD, keyRow_kD]
    split
    · rw [insP_eq S p r, List.map_cons]
    · rfl
theorem sortPs_eq (S : Nat) : ∀ l : List Pr, sortPs (l.map fun q => (kD S q, pD q)) = (sortQ S l).map fun q => (kD S q, pD q)
  | [] => rfl
  | p :: r => by rw [List.map_cons, sortPs, sortPs_eq S r, insP_eq, sortQ]
theorem insQ_perm (S : Nat) (x : Pr) : ∀ l : List Pr, (insQ S x l).Perm (x :: l)
  | [] => List.Perm.refl _
  | y :: r => by
    unfold insQ
    split
    · exact ((insQ_perm S x r).cons y).trans (List.Perm.swap x y r)
    · exact List.Perm.refl _
theorem sortQ_perm (S : Nat) : ∀ l : List Pr, (sortQ S l).Perm l
  | [] => List.Perm.refl _
  | x :: r => (insQ_perm S x _).trans ((sortQ_perm S r).cons x)
abbrev SrtQ (S : Nat) (l : List Pr) : Prop := l.Pairwise fun x y => leK (lk S x) (lk S y)
theorem insQ_sorted (S : Nat) (x : Pr) : ∀ l : List Pr, SrtQ S l → SrtQ S (insQ S x l)
  | [], _ => List.pairwise_singleton _ _
  | y :: r, h => by
    obtain ⟨h1, h2⟩ := List.pairwise_cons.mp h
    unfold insQ
    split
    · rename_i hxy
      refine List.pairwise_cons.mpr ⟨fun z hz => ?_, insQ_sorted S x r h2⟩
      rcases List.mem_cons.mp ((insQ_perm S x r).mem_iff.mp hz) with rfl | hz
      · exact leK_of hxy
      · exact h1 z hz
    · rename_i hxy
      have hxy : leK (lk S x) (lk S y) := by simpa using hxy
      refine List.pairwise_cons.mpr ⟨fun z hz => ?_, h⟩
      rcases List.mem_cons.mp hz with rfl | hz
      · exact hxy
      · exact leK_trans hxy (h1 z hz)
theorem sortQ_sorted (S : Nat) : ∀ l : List Pr, SrtQ S (sortQ S l)
  | [] => List.Pairwise.nil
  | x :: r => insQ_sorted S x _ (sortQ_sorted S r)
theorem lk_of {S : Nat} {p q : Pr} (h : leK (lk S p) (lk S q)) (ne : lk S p ≠ lk S q) : qt p.1 p.2 < qt q.1 q.2 ∨ (qt p.1 p.2 = qt q.1 q.2 ∧ kN S p.1 p.2 < kN S q.1 q.2) := by
  unfold leK lk at h
  unfold lk at ne
  rw [lexK] at h
  split at h
  · rename_i e
    injection e with e
    rw [lexK] at h
    split at h
    · rename_i e2
      injection e2 with e2
      rw [e, e2] at ne
      exact absurd rfl ne
    · rename_i e2
      have h : decide (kN S q.1 q.2 < kN S p.1 p.2) = false := h
      have := of_decide_eq_false h
      refine .inr ⟨e.symm, ?_⟩
      have : kN S q.1 q.2 ≠ kN S p.1 p.2 := fun z => e2 (by rw [z])
      omega
  · rename_i e
    have h : decide (qt q.1 q.2 < qt p.1 p.2) = false := h
    have := of_decide_eq_false h
    have : qt q.1 q.2 ≠ qt p.1 p.2 := fun z => e (by rw [z])
    exact .inl (by omega)
def DrP (p : Pr) : Prop := Dr p.1 p.2
theorem lk_inj {G : Nat} {p q : Pr} (hp : DrP p) (hq : DrP q) (b1 : p.1.natAbs ≤ G ∧ p.2.natAbs ≤ G) (b2 : q.1.natAbs ≤ G ∧ q.2.natAbs ≤ G) (e : lk (G * G) p = lk (G * G) q) : p = q := by
  unfold lk at e
  injection e with e1 e2
  injection e2 with e2 _
  injection e1 with e1
  injection e2 with e2
  obtain ⟨h1, h2⟩ := same_of hp hq b1 b2 e1 e2
  exact Prod.ext h1 h2
theorem mapKs_ok {fk : D → M D} (f : Pr → D) : ∀ l : List Pr, (∀ p ∈ l, fk (pD p) = .ok (f p)) → mapKs fk (l.map pD) = .ok (l.map f)
  | [], _ => rfl
  | p :: r, h => by
    rw [List.map_cons, mapKs, h p List.mem_cons_self, M.bind_ok, mapKs_ok f r fun q hq => h q (List.mem_cons_of_mem _ hq)]
    rfl
theorem nodup_map {α β : Type} {f : α → β} : ∀ {l : List α}, l.Nodup → (∀ a ∈ l, ∀ b ∈ l, f a = f b → a = b) → (l.map f).Nodup
  | [], _, _ => List.nodup_nil
  | a :: l, h, hi => by
    rw [List.nodup_cons] at h
    rw [List.map_cons, List.nodup_cons]
    refine ⟨fun hm => ?_, nodup_map h.2 fun x hx y hy => hi x (List.mem_cons_of_mem _ hx) y (List.mem_cons_of_mem _ hy)⟩
    obtain ⟨b, hb, e⟩ := List.mem_map.mp hm
    have := hi b (List.mem_cons_of_mem _ hb) a List.mem_cons_self e
    exact h.1 (this ▸ hb)
theorem cond_kD (S : Nat) : ∀ l : List Pr, condD (l.map (kD S)) = true
  | [] => rfl
  | p :: r => by
    unfold condD
    rw [List.map_cons]
    have h1 : rowSig (kD S p) = some [0, 0] := rfl
    dsimp only
    rw [h1]
    dsimp only
    have h2 : ((kD S p :: r.map (kD S)).all fun e => rowSig e == some [0, 0]) = true := by
      rw [List.all_eq_true]
      intro e he
      rw [← List.map_cons] at he
      obtain ⟨q, _, rfl⟩ := List.mem_map.mp he
      rfl
    rw [h2]
    rfl
/-- what is told in turn -/
def turnL (m : List Pr) : List Pr := sortQ ((mxs 0 m).toNat * (mxs 0 m).toNat) (ddL [] m)
theorem f_in_turn {m : List Pr} (hm : ∀ p ∈ m, DrP p) (hl : m.length ≤ 200) : F_in_turn [.lst (m.map pD)] = .ok (.ow ((turnL m).map pD)) := by
  obtain ⟨w', e⟩ := turn_loop (some (.im (.lst (m.map pD)))) none m [] 0 none (by simp; lia)
  have g0 := (mxs_ge m 0).1
  have g1 : mxs 0 m ≤ 1920000 := mxs_le m 0 1920000 (by decide) fun p hp => by have h1 := (hm p hp).u; have h2 := (hm p hp).v; lia
  have gN : ((mxs 0 m).toNat : Int) = mxs 0 m := by lia
  have sS : (mxs 0 m).toNat * (mxs 0 m).toNat ≤ 10000000000000 := by
    have : (mxs 0 m).toNat ≤ 1920000 := by lia
    exact Nat.le_trans (Nat.mul_le_mul this this) (by decide)
  have hmem : ∀ p ∈ ddL [] m, p ∈ m := fun p hp => by
    rcases (ddL_mem m [] p).mp hp with z | z
    · cases z
    · exact z
  have hb : ∀ p ∈ ddL [] m, p.1.natAbs ≤ (mxs 0 m).toNat ∧ p.2.natAbs ≤ (mxs 0 m).toNat := fun p hp => by
    have := (mxs_ge m 0).2 p (hmem p hp)
    lia
  have hlen : (ddL [] m).length ≤ 200 := by have := ddL_len m []; simp at this; lia
  refine (fn1 _ _ _).trans (fin_of (go (sd' := [some (.im (.lst (m.map pD))), some (.od (kvs [])), none, none, none]) rfl (go (set_ok rfl) (go ((sFor_ok (seq_l rfl)).trans e) (go (set_ok (d := .int ((((mxs 0 m).toNat * (mxs 0 m).toNat : Nat)) : Int)) ?_) ?_)))))
  · refine (op_ok rfl rfl (gT (smI (by lia) (by lia)) (smI (by lia) (by lia)))).trans ?_
    rw [Int.natCast_mul, gN]
  · unfold sRetF fSortK
    have hk : (kvs (ddL [] m)).map (fun kv => D.tup (kv.1.map keyDd)) = (ddL [] m).map pD := by
      unfold kvs
      rw [List.map_map]
      rfl
    show M.bind ((mapKs _ ((kvs (ddL [] m)).map fun kv => D.tup (kv.1.map keyDd))).bind _) _ = _
    rw [hk, mapKs_ok (kD ((mxs 0 m).toNat * (mxs 0 m).toNat)) _ fun p hp => (by unfold keyOfF; have := f_place (hm p (hmem p hp)) sS; unfold pD; rw [this]; rfl), M.bind_ok]
    have nd : ((((ddL [] m).map (kD ((mxs 0 m).toNat * (mxs 0 m).toNat))).map keyRow)).Nodup := by
      rw [List.map_map]
      refine nodup_map (ddL_nodup m [] List.nodup_nil) fun a ha b hb' e => ?_
      exact lk_inj (hm a (hmem a ha)) (hm b (hmem b hb')) (hb a ha) (hb b hb') e
    rw [few_of (by rw [List.length_map]; lia), cond_kD, decide_eq_true nd]
    have hz : ((ddL [] m).map (kD ((mxs 0 m).toNat * (mxs 0 m).toNat))).zip ((ddL [] m).map pD) = (ddL [] m).map fun q => (kD ((mxs 0 m).toNat * (mxs 0 m).toNat) q, pD q) := by
      rw [List.zip_map']
    simp only [Bool.and_self, if_true, M.bind_ok]
    rw [hz, sortPs_eq, List.map_map]
    rfl
end Law

set_option maxRecDepth 100000
set_option maxHeartbeats 4000000
set_option linter.all false
namespace Law
open PySem L2 DL
/-! ### the law's own order -/
theorem gGt_i (a b : Int) : gGt (.int a) (.int b) = .ok (.bl (decide (b < a))) := rfl
theorem gGe_i (a b : Int) : gGe (.int a) (.int b) = .ok (.bl (decide (b ≤ a))) := rfl
theorem gLt_i (a b : Int) : gLt (.int a) (.int b) = .ok (.bl (decide (a < b))) := rfl
theorem gLe_i (a b : Int) : gLe (.int a) (.int b) = .ok (.bl (decide (a ≤ b))) := rfl
theorem idx_qt {u v : Int} (h : Dr u v) : ∃ n : Nat, idxB [decide (0 < u) && decide (0 ≤ v), decide (0 < v) && decide (u ≤ 0), decide (u < 0) && decide (v ≤ 0), true] = some n ∧ (n : Int) = qt u v ∧ n ≤ 3 := by
  rcases qt_cases h with ⟨q, h1, h2⟩ | ⟨q, h1, h2⟩ | ⟨q, h1, h2⟩ | ⟨q, h1, h2⟩ <;> rw [q]
  · rw [decide_eq_true h1, decide_eq_true h2]
    exact ⟨0, rfl, rfl, by decide⟩
  · rw [decide_eq_false (show ¬ 0 < u by lia), decide_eq_true h1, decide_eq_true h2]
    exact ⟨1, rfl, rfl, by decide⟩
  · rw [decide_eq_false (show ¬ 0 < u by lia), decide_eq_false (show ¬ 0 < v by lia), decide_eq_true h1, decide_eq_true h2]
    exact ⟨2, rfl, rfl, by decide⟩
  · rw [decide_eq_false (show ¬ 0 ≤ v by lia), decide_eq_false (show ¬ 0 < v by lia), decide_eq_false (show ¬ u < 0 by lia), Bool.and_false]
    exact ⟨3, rfl, rfl, by decide⟩
theorem f_lplace {u v : Int} (h : Dr u v) : F__law_place [nD u v] = .ok (.im (.int (qt u v))) := by
  obtain ⟨n, e1, e2, e3⟩ := idx_qt h
  refine (fn1 _ _ _).trans (fin_of (go (asg2 rfl) (go (set_ok (d := .lst [.bl (decide (0 < u) && decide (0 ≤ v)), .bl (decide (0 < v) && decide (u ≤ 0)), .bl (decide (u < 0) && decide (v ≤ 0)), .bl true]) (lst_of (aC ?_ (aC ?_ (aC ?_ (a1 rfl)))) rfl)) (ret_ok ?_))))
  · exact and_bb (op_ok rfl rfl (gGt_i _ _)) (op_ok rfl rfl (gGe_i _ _))
  · exact and_bb (op_ok rfl rfl (gGt_i _ _)) (op_ok rfl rfl (gLe_i _ _))
  · exact and_bb (op_ok rfl rfl (gLt_i _ _)) (op_ok rfl rfl (gLe_i _ _))
  · unfold eIndexT
    show M.bind (M.ok (D.lst [.bl (decide (0 < u) && decide (0 ≤ v)), .bl (decide (0 < v) && decide (u ≤ 0)), .bl (decide (u < 0) && decide (v ≤ 0)), .bl true])) _ = _
    rw [M.bind_ok]
    dsimp only
    have hb : boolsOf [.bl (decide (0 < u) && decide (0 ≤ v)), .bl (decide (0 < v) && decide (u ≤ 0)), .bl (decide (u < 0) && decide (v ≤ 0)), .bl true] = some [decide (0 < u) && decide (0 ≤ v), decide (0 < v) && decide (u ≤ 0), decide (u < 0) && decide (v ≤ 0), true] := rfl
    rw [hb]
    dsimp only
    rw [e1]
    dsimp only
    rw [if_pos (by lia), ← e2]
theorem f_sooner {S : Nat} {p q : Pr} (hp : DrP p) (hq : DrP q) (h : qt p.1 p.2 < qt q.1 q.2 ∨ (qt p.1 p.2 = qt q.1 q.2 ∧ kN S p.1 p.2 < kN S q.1 q.2)) : F__law_sooner [pD p, pD q] = .ok (.im (.bl true)) := by
  have e0 : ∀ sd : DSt, eVar 0 sd = .ok (pD p) → eCall F__law_place (aCons (eVar 0) aNil) sd = .ok (.int (qt p.1 p.2)) := fun sd h => call_ok (a1 h) (f_lplace hp) rfl
  have e1 : ∀ sd : DSt, eVar 1 sd = .ok (pD q) → eCall F__law_place (aCons (eVar 1) aNil) sd = .ok (.int (qt q.1 q.2)) := fun sd h => call_ok (a1 h) (f_lplace hq) rfl
  have t : ∀ sd : DSt, eVar 0 sd = .ok (pD p) → eVar 1 sd = .ok (pD q) → DL.tB (eOp gNe (eCall F__law_place (aCons (eVar 0) aNil)) (eCall F__law_place (aCons (eVar 1) aNil))) sd = .ok (!(qt p.1 p.2 == qt q.1 q.2)) := fun sd h0 h1 => tB_b (op_ok (e0 sd h0) (e1 sd h1) (ne_int _ _))
  refine (fn2 _ _ _ _).trans (fin_of ?_)
  rcases h with h | ⟨h1, h2⟩
  · refine sSeq_rt (if_take ((t _ rfl rfl).trans ?_) (ret_ok ((op_ok (e0 _ rfl) (e1 _ rfl) (gLt_i _ _)).trans ?_)))
    · rw [beq_false_of_ne (by lia)]; rfl
    · rw [decide_eq_true h]
  · have su := hp.u
    have sv := hp.v
    have sx := hq.u
    have sy := hq.v
    refine go (if_skip ((t _ rfl rfl).trans (by rw [h1]; simp))) (ret_ok ((op_ok (op_ok (ixt_ok (d := .int p.1) rfl rfl (atI0 _ _)) (ixt_ok (d := .int q.2) rfl rfl (atI1 _ _ _)) (gT (smI (by lia) (by lia)) (smI (by lia) (by lia)))) (op_ok (ixt_ok (d := .int p.2) rfl rfl (atI1 _ _ _)) (ixt_ok (d := .int q.1) rfl rfl (atI0 _ _)) (gT (smI (by lia) (by lia)) (smI (by lia) (by lia)))) (gGt_i _ _)).trans ?_))
    rw [decide_eq_true (cross_of hp hq h1 h2)]
/-! ### what is told -/
theorem turn_mem {m : List Pr} {p : Pr} : p ∈ turnL m ↔ p ∈ m := by
  unfold turnL
  rw [(sortQ_perm _ _).mem_iff, ddL_mem]
  simp
theorem turn_len (m : List Pr) : (turnL m).length = (ddL [] m).length := (sortQ_perm _ _).length_eq
theorem turn_next {m : List Pr} (hm : ∀ p ∈ m, DrP p) : (turnL m).Pairwise fun p q => qt p.1 p.2 < qt q.1 q.2 ∨ (qt p.1 p.2 = qt q.1 q.2 ∧ kN ((mxs 0 m).toNat * (mxs 0 m).toNat) p.1 p.2 < kN ((mxs 0 m).toNat * (mxs 0 m).toNat) q.1 q.2) := by
  have nd : (turnL m).Nodup := (sortQ_perm _ _).nodup_iff.mpr (ddL_nodup m [] List.nodup_nil)
  have st := sortQ_sorted ((mxs 0 m).toNat * (mxs 0 m).toNat) (ddL [] m)
  have both := List.Pairwise.and st nd
  refine both.imp_of_mem fun {p q} hp hq h => lk_of h.1 fun e => h.2 ?_
  have b : ∀ p ∈ m, p.1.natAbs ≤ (mxs 0 m).toNat ∧ p.2.natAbs ≤ (mxs 0 m).toNat := fun p hp => by
    have := (mxs_ge m 0).2 p hp
    lia
  have hp := turn_mem.mp hp
  have hq := turn_mem.mp hq
  exact lk_inj (hm p hp) (hm q hq) (b p hp) (b q hq) e
theorem pD_dep (p : Pr) : (pD p).dep ≤ 3 := by unfold pD nD; simp [D.dep, D.deps]
theorem in_pD {m : List Pr} {p : Pr} (h : p ∈ m) : gIn (pD p) (.lst (m.map pD)) = .ok (.bl true) := by
  have hd : D.deps (m.map pD) ≤ 60 := deps_le fun d hd => by
    obtain ⟨q, _, rfl⟩ := List.mem_map.mp hd
    have := pD_dep q
    lia
  show (if D.deps (m.map pD) ≤ 60 then M.ok (D.bl (inD (pD p) (m.map pD))) else .bad) = _
  rw [if_pos hd]
  have : inD (pD p) (m.map pD) = true := by
    unfold inD
    exact List.any_eq_true.mpr ⟨pD p, List.mem_map_of_mem h, D.eq_refl _⟩
  rw [this]
theorem ne_same (d : D) (h : d.dep ≤ 60) : gNe d d = .ok (.bl false) := by rw [gNe_b h, D.eq_refl]; rfl
theorem lst_dep (m : List Pr) : (D.lst (m.map pD)).dep ≤ 60 := by
  have : D.deps (m.map pD) ≤ 3 := deps_le fun d hd => by
    obtain ⟨q, _, rfl⟩ := List.mem_map.mp hd
    exact pD_dep q
  simp only [D.dep]
  lia
end Law

set_option maxRecDepth 100000
set_option maxHeartbeats 4000000
set_option linter.all false
namespace Law
open PySem L2 DL
noncomputable def iBody : DSt → M O := sSeq (sSet 9 (eCall F_direction (aCons (eVar 8) aNil)))
      (sSeq (sIf (DL.tN (DL.tB (eCall F__law_same_way (aCons (eVar 9) (aCons (eVar 8) aNil))))) (sRet (eC (.bl false))) sNil)
      (sApp 1 (eVar 9)))
def stD (a b c d : Int) : D := .tup [nD a b, nD c d]
theorem i_body {a b c d : Int} (s : Stp a b c d) (m : List Pr) (hm : m.length ≤ 500) (s0 s2 s3 s4 s5 s6 s7 s9 s10 s11 : Option S) :
    iBody [s0, some (.ow (m.map pD)), s2, s3, s4, s5, s6, s7, some (.im (stD a b c d)), s9, s10, s11] =
      .ok (.nx [s0, some (.ow ((m ++ [(dirP a b c d, dirQ a b c d)]).map pD)), s2, s3, s4, s5, s6, s7, some (.im (stD a b c d)), some (.im (nD (dirP a b c d) (dirQ a b c d))), s10, s11]) := by
  refine go (set_ok (call_ok (a1 rfl) (f_dir s) rfl)) (go (if_skip (tN_t (tB_b (call_ok (aC rfl (a1 rfl)) (f_same s) rfl)))) ((app_ok (ds := m.map pD) rfl rfl (by rw [List.length_map]; lia)).trans ?_))
  rw [List.map_append]
  rfl
theorem i_loop (s0 s2 s3 s4 s5 s6 s7 s10 s11 : Option S) : ∀ (l : List (Int × Int × Int × Int)) (m : List Pr) (s8 s9 : Option S), (∀ q ∈ l, Stp q.1 q.2.1 q.2.2.1 q.2.2.2) → m.length + l.length ≤ 500 → (∀ p ∈ m, DrP p) →
    ∃ (m' : List Pr) (s8' s9' : Option S), (∀ p ∈ m', DrP p) ∧ m'.length = m.length + l.length ∧ loopD (gNm 8) iBody (l.map fun q => stD q.1 q.2.1 q.2.2.1 q.2.2.2) [s0, some (.ow (m.map pD)), s2, s3, s4, s5, s6, s7, s8, s9, s10, s11] = .ok (.nx [s0, some (.ow (m'.map pD)), s2, s3, s4, s5, s6, s7, s8', s9', s10, s11])
  | [], m, s8, s9, _, _, hm => ⟨m, s8, s9, hm, rfl, rfl⟩
  | q :: r, m, s8, s9, hs, hl, hm => by
    rw [List.length_cons] at hl
    have sq := hs q List.mem_cons_self
    obtain ⟨m', s8', s9', h1, h2, h3⟩ := i_loop s0 s2 s3 s4 s5 s6 s7 s10 s11 r (m ++ [(dirP q.1 q.2.1 q.2.2.1 q.2.2.2, dirQ q.1 q.2.1 q.2.2.1 q.2.2.2)]) (some (.im (stD q.1 q.2.1 q.2.2.1 q.2.2.2))) (some (.im (nD (dirP q.1 q.2.1 q.2.2.1 q.2.2.2) (dirQ q.1 q.2.1 q.2.2.1 q.2.2.2)))) (fun z hz => hs z (List.mem_cons_of_mem _ hz)) (by rw [List.length_append, List.length_singleton]; lia) (fun p hp => by
      rcases List.mem_append.mp hp with z | z
      · exact hm p z
      · have : p = (dirP q.1 q.2.1 q.2.2.1 q.2.2.2, dirQ q.1 q.2.1 q.2.2.1 q.2.2.2) := by simpa using z
        rw [this]
        exact (dir_ok sq).1)
    refine ⟨m', s8', s9', h1, by rw [h2, List.length_append, List.length_singleton, List.length_cons]; lia, ?_⟩
    rw [List.map_cons]
    exact (loop_nx (sd1 := [s0, some (.ow (m.map pD)), s2, s3, s4, s5, s6, s7, some (.im (stD q.1 q.2.1 q.2.2.1 q.2.2.2)), s9, s10, s11]) rfl (i_body sq m (by lia) s0 s2 s3 s4 s5 s6 s7 s9 s10 s11)).trans h3
noncomputable def oBody : DSt → M O := sSeq (sSet 3 (eCall F__law_step (aCons (eVar 2) aNil)))
      (sSeq (sAsg (eVar 3) (gTupD 2 (gsCons (gTupD 2 (gsCons (gNm 4) (gsCons (gNm 5) gsNil))) (gsCons (gTupD 2 (gsCons (gNm 6) (gsCons (gNm 7) gsNil))) gsNil))))
      (sFor (iSeq (eLst (aCons (eVar 3) (aCons (eTup (aCons (eTup (aCons (eOp DL.gSub (eC (.int 0)) (eVar 4)) (aCons (eVar 5) aNil))) (aCons (eTup (aCons (eOp DL.gSub (eC (.int 0)) (eVar 6)) (aCons (eVar 7) aNil))) aNil))) (aCons (eTup (aCons (eCall F__law_lowest (aCons (eVar 4) (aCons (eOp gTimes (eC (.int 2)) (eVar 5)) aNil))) (aCons (eCall F__law_lowest (aCons (eVar 6) (aCons (eOp gTimes (eC (.int 2)) (eVar 7)) aNil))) aNil))) aNil))))) (gNm 8) iBody))
theorem o_body (c : Int) (m : List Pr) (hl : m.length ≤ 300) (hm : ∀ p ∈ m, DrP p) (s0 s3 s4 s5 s6 s7 s8 s9 s10 s11 : Option S) :
    ∃ (m' : List Pr) (t3 t4 t5 t6 t7 t8 t9 : Option S), (∀ p ∈ m', DrP p) ∧ m'.length = m.length + 3 ∧ oBody [s0, some (.ow (m.map pD)), some (.im (.int c)), s3, s4, s5, s6, s7, s8, s9, s10, s11] = .ok (.nx [s0, some (.ow (m'.map pD)), some (.im (.int c)), t3, t4, t5, t6, t7, t8, t9, s10, s11]) := by
  obtain ⟨a, b, e, d, n1, n2, nz, ef⟩ := f_step c
  have b1 := n1.pos
  have b2 := n1.bot
  have b3 := n1.top
  have d1 := n2.pos
  have d2 := n2.bot
  have d3 := n2.top
  obtain ⟨a', b', l1, k1, z1⟩ := low_nm (A := 80000) (B := 24) (t := a) (b := 2 * b) (by lia) (by lia) b3
  obtain ⟨e', d', l2, k2, z2⟩ := low_nm (A := 80000) (B := 24) (t := e) (b := 2 * d) (by lia) (by lia) d3
  have S1 : Stp a b e d := ⟨⟨b1, by lia, b3⟩, ⟨d1, by lia, d3⟩, nz⟩
  have S2 : Stp (0 - a) b (0 - e) d := ⟨⟨b1, by lia, by lia⟩, ⟨d1, by lia, by lia⟩, by lia⟩
  have S3 : Stp a' b' e' d' := ⟨k1, k2, by rcases nz with z | z; exact .inl (z1 z); exact .inr (z2 z)⟩
  obtain ⟨m', t8, t9, h1, h2, h3⟩ := i_loop s0 (some (.im (.int c))) (some (.im (stD a b e d))) (some (.im (.int a))) (some (.im (.int b))) (some (.im (.int e))) (some (.im (.int d))) s10 s11 [(a, b, e, d), (0 - a, b, 0 - e, d), (a', b', e', d')] m s8 s9 (fun q hq => by
    rcases List.mem_cons.mp hq with rfl | hq
    · exact S1
    · rcases List.mem_cons.mp hq with rfl | hq
      · exact S2
      · rcases List.mem_cons.mp hq with rfl | hq
        · exact S3
        · cases hq) (by simp; lia) hm
  refine ⟨m', _, _, _, _, _, t8, t9, h1, h2, go (set_ok (call_ok (a1 rfl) ef rfl)) (go (sd' := [s0, some (.ow (m.map pD)), some (.im (.int c)), some (.im (stD a b e d)), some (.im (.int a)), some (.im (.int b)), some (.im (.int e)), some (.im (.int d)), s8, s9, s10, s11]) rfl ((sFor_ok (seq_l (lst_of (aC (d := stD a b e d) rfl (aC (d := stD (0 - a) b (0 - e) d) (tup2 (tup2 rfl rfl) (tup2 rfl rfl)) (a1 (d := stD a' b' e' d') ?_))) rfl))).trans h3))⟩
  unfold stD
  rw [← l1, ← l2]
  have sm2 : sm 2 = true := smI (by decide) (by decide)
  exact tup2 (call_ok (aC rfl (a1 (op_ok rfl rfl (gT sm2 (smI (by lia) (by lia)))))) (f_lowest (by lia) (by lia) (by lia)) rfl) (call_ok (aC rfl (a1 (op_ok rfl rfl (gT sm2 (smI (by lia) (by lia)))))) (f_lowest (by lia) (by lia) (by lia)) rfl)
theorem o_loop (s0 s10 s11 : Option S) : ∀ (cs : List Int) (m : List Pr) (s2 s3 s4 s5 s6 s7 s8 s9 : Option S), m.length + 3 * cs.length ≤ 200 → (∀ p ∈ m, DrP p) →
    ∃ (m' : List Pr) (t2 t3 t4 t5 t6 t7 t8 t9 : Option S), (∀ p ∈ m', DrP p) ∧ m'.length ≤ 200 ∧ loopD (gNm 2) oBody (cs.map D.int) [s0, some (.ow (m.map pD)), s2, s3, s4, s5, s6, s7, s8, s9, s10, s11] = .ok (.nx [s0, some (.ow (m'.map pD)), t2, t3, t4, t5, t6, t7, t8, t9, s10, s11])
  | [], m, s2, s3, s4, s5, s6, s7, s8, s9, hl, hm => ⟨m, s2, s3, s4, s5, s6, s7, s8, s9, hm, by lia, rfl⟩
  | c :: r, m, s2, s3, s4, s5, s6, s7, s8, s9, hl, hm => by
    rw [List.length_cons] at hl
    obtain ⟨m1, t3, t4, t5, t6, t7, t8, t9, h1, h2, h3⟩ := o_body c m (by lia) hm s0 s3 s4 s5 s6 s7 s8 s9 s10 s11
    obtain ⟨m', u2, u3, u4, u5, u6, u7, u8, u9, k1, k2, k3⟩ := o_loop s0 s10 s11 r m1 (some (.im (.int c))) t3 t4 t5 t6 t7 t8 t9 (by lia) h1
    refine ⟨m', u2, u3, u4, u5, u6, u7, u8, u9, k1, k2, ?_⟩
    rw [List.map_cons]
    exact (loop_nx (sd1 := [s0, some (.ow (m.map pD)), some (.im (.int c)), s3, s4, s5, s6, s7, s8, s9, s10, s11]) rfl h3).trans k3
theorem bools_true {α : Type} : ∀ l : List α, boolsOf (l.map fun _ => D.bl true) = some (l.map fun _ => true)
  | [] => rfl
  | a :: l => by
    rw [List.map_cons, List.map_cons]
    simp only [boolsOf, bools_true l]
    rfl
theorem all_true {α : Type} (l : List α) : bAll [.lst (l.map fun _ => .bl true)] = .ok (.bl true) := by
  simp only [bAll, bools_true]
  congr 2
  rw [List.all_eq_true]
  intro b hb
  obtain ⟨_, _, rfl⟩ := List.mem_map.mp hb
  rfl
theorem new_ok {f : DSt → M (List D)} {sd : DSt} {ds : List D} (h : f sd = .ok ds) : eNew f sd = .ok (.lst ds) := by
  unfold eNew; rw [h]; rfl
theorem comp_ok {fi : DSt → M (List D)} {n0 : Nat} {caps : List Nat} {gt : D → DSt → M DSt} {fe : DSt → M D} {sd : DSt} {ds : List D} {r : M (List D)} (h : fi sd = .ok ds) (hf : ds.length ≤ 1000) (hr : mapD gt fe (sdC n0 caps sd) ds = r) : fComp fi n0 caps gt fe sd = r := by
  unfold fComp
  rw [h, M.bind_ok, few_of (by lia), if_pos rfl, hr]
theorem view_ok {i : Nat} {f : DSt → M Bool} {sd : DSt} {b : Bool} (h : f (frz i sd) = .ok b) : tView i f sd = .ok b := by
  unfold tView
  rw [h]
theorem frzS_ok {i : Nat} {f : DSt → M O} {sd : DSt} {r : M O} (h : f (frz i sd) = r) : sFrz i f sd = r := h
theorem len_ok {ds : List D} : bLen [.lst ds] = .ok (.int (ds.length : Int)) := rfl
theorem law_true (ns : List Int) (hns : ns.length ≤ 63) : F_law [.lst (ns.map D.int)] = .ok (.im (.bl true)) := by
  have cu : ∃ cs : List Int, cs.length ≤ 60 ∧ ∀ r : List (Option S), eSl (eVar 0) oNone (oSome (eC (.int 60))) (some (.im (.lst (ns.map D.int))) :: r) = .ok (.lst (cs.map D.int)) := by
    refine ⟨ns.take (min 60 ns.length), by rw [List.length_take]; lia, fun r => ?_⟩
    show M.ok (D.lst (cutD (ns.map D.int) none (some ((60 : Nat) : Int)))) = _
    unfold cutD
    have z : HT.sIx (ns.map D.int).length 0 none = 0 := rfl
    rw [HT.sIx_nat, z, List.length_map, List.drop_zero, Nat.sub_zero, List.map_take]
  obtain ⟨cs, lc, sl⟩ := cu
  obtain ⟨m, t2, t3, t4, t5, t6, t7, t8, t9, hm, hl, lp⟩ := o_loop (some (.im (.lst (ns.map D.int)))) none none cs [] none none none none none none none none (by simp; lia) (fun p hp => by cases hp)
  generalize ns.map D.int = N at sl lp ⊢
  have it := f_in_turn hm hl
  have lt : (turnL m).length ≤ 200 := by rw [turn_len]; have := ddL_len m []; simp at this; lia
  have cp : ∀ l : List Pr, l.length ≤ 200 → bList [.lst (l.map pD)] = .ok (.lst (l.map pD)) := fun l hl => rfl
  have ls : ∀ sd : DSt, eVar 1 sd = .ok (.lst (m.map pD)) → eLenSet (eVar 1) sd = .ok (.int ((ddL [] m).length : Int)) := fun sd h => by
    unfold eLenSet
    rw [h, M.bind_ok]
    dsimp only
    rw [keysT_pD]
    dsimp only
    rw [if_pos (by rw [List.length_map]; lia)]
    have := add_all m []
    rw [List.map_nil] at this
    rw [this, List.length_map]
  refine (fn1 _ _ _).trans (fin_of (go (own_nil 1 _) (go ((sFor_ok (seq_l (sl _))).trans lp) (frzS_ok ?_))))
  refine go (sd' := [some (.im (.lst N)), some (.im (.lst (m.map pD))), t2, t3, t4, t5, t6, t7, t8, t9, some (.im (.lst (m.map pD))), none]) (set_ok (cb_ok (a1 rfl) (cp m hl))) ?_
  refine go (sd' := [some (.im (.lst N)), some (.im (.lst (m.map pD))), t2, t3, t4, t5, t6, t7, t8, some (.ow ((turnL m).map pD)), some (.im (.lst (m.map pD))), none]) (own_ok ?_) ?_
  · unfold fCall
    rw [a1 (d := .lst (m.map pD)) rfl, M.bind_ok, it]
  refine go (if_skip (view_ok ?_)) ?_
  · refine tO_ff (tB_b (op_ok rfl rfl (ne_same _ (lst_dep m)))) (tO_ff (tN_t (tB_b rfl)) (tB_b ((op_ok (cb_ok (a1 rfl) len_ok) (ls _ rfl) (ne_int _ _)).trans ?_)))
    rw [List.length_map, turn_len]
    simp
  refine go (sd' := [some (.im (.lst N)), some (.im (.lst (m.map pD))), t2, t3, t4, t5, t6, t7, t8, some (.ow ((turnL m).map pD)), some (.im (.lst (m.map pD))), some (.im (.lst ((turnL m).map pD)))]) (set_ok (new_ok rfl)) ?_
  refine go (app_ok (ds := (turnL m).map pD) (d := nD 0 0) rfl (tup2 rfl rfl) (by rw [List.length_map]; lia)) ?_
  refine go (if_skip ?_) ?_
  · exact tO_ff (tB_b (op_ok rfl rfl (ne_same _ (lst_dep m)))) (tB_b (op_ok (call_ok (a1 rfl) it rfl) rfl (ne_same _ (lst_dep _))))
  refine go (if_skip ?_) (ret_ok ?_)
  · refine tO_ff (tN_t (tB_b (cb_ok (a1 (new_ok (comp_ok (ds := m.map pD) (seq_l rfl) (by rw [List.length_map]; lia) (mapQ pD (fun _ => .bl true) m fun p hp => ⟨_, rfl, op_ok rfl rfl (in_pD (turn_mem.mpr hp))⟩)))) (all_true m)))) (tN_t (tB_b (cb_ok (a1 (new_ok (comp_ok (ds := (turnL m).map pD) (seq_l rfl) (by rw [List.length_map]; lia) (mapQ pD (fun _ => .bl true) (turnL m) fun p hp => ⟨_, rfl, op_ok rfl rfl (in_pD (turn_mem.mp hp))⟩)))) (all_true _))))
  · have rg : ∀ sd : DSt, eVar 11 sd = .ok (.lst ((turnL m).map pD)) → iRange1 (aCons (eOp DL.gSub (eCB bLen (aCons (eVar 11) aNil)) (eC (.int 1))) aNil) sd = .ok ((List.range ((turnL m).length - 1)).map fun (k : Nat) => D.int (k : Int)) := fun sd h => by
      have e : aCons (eOp DL.gSub (eCB bLen (aCons (eVar 11) aNil)) (eC (.int 1))) aNil sd = .ok [.int (((turnL m).length : Int) - 1)] := a1 ((op_ok (cb_ok (a1 h) len_ok) rfl rfl).trans (by rw [List.length_map]; rfl))
      unfold iRange1
      rw [e, M.bind_ok]
      dsimp only
      rw [if_pos (by lia), range0]
      congr 3
      lia
    refine cb_ok (a1 (new_ok (comp_ok (rg _ rfl) (by rw [List.length_map, List.length_range]; lia) (mapQ (fun (k : Nat) => D.int (k : Int)) (fun _ => .bl true) _ fun k hk => ⟨_, rfl, ?_⟩)))) (all_true _)
    have hk := List.mem_range.mp hk
    have nx := List.pairwise_iff_getElem.mp (turn_next hm) k (k + 1) (by lia) (by lia) (by lia)
    have at' : ∀ j : Nat, (h : j < (turnL m).length) → atI ((turnL m).map pD) (j : Int) = some (pD (turnL m)[j]) := fun j h => atI_nat (by rw [List.getElem?_map, List.getElem?_eq_getElem h]; rfl)
    have dr : ∀ j : Nat, (h : j < (turnL m).length) → DrP (turnL m)[j] := fun j h => hm _ (turn_mem.mp (List.getElem_mem h))
    refine call_ok (aC (ix_ok rfl rfl (at' k (by lia))) (a1 (ix_ok rfl (op_ok rfl rfl (show gPlus (.int (k : Int)) (.int 1) = .ok (.int (((k + 1 : Nat) : Int))) from rfl)) (at' (k + 1) (by lia))))) (f_sooner (dr k (by lia)) (dr (k + 1) (by lia)) nx) rfl
end Law

open PySem PySem.W PyProof.Rows
-- LAST
set_option maxRecDepth 100000 in
set_option maxHeartbeats 0 in
theorem PySem.Challenge.cw_selfsight_k02_directions_holds : PySem.Challenge.rw_selfsight_k02_directions.Holds := by
  w_on; o_law; k_head; (case hw => w_witness2)
  k_fill
  refine Law.walk (l := PySem.Challenge.rw_selfsight_k02_directions) rfl rfl Law.law_true (fun w h Y => PySem.W.km_in_of Y) (fun w h Y => PySem.W.km_tabs_of Y _ (.head _)) ?F
  case F =>
    intro w mg fa h KX G hmg
    refine' Law.all_mk KX G hmg ?a0 ?l0 ?c0 ?k0 ?a1 ?l1 ?c1 ?k1 ?a2 ?l2 ?c2 ?k2 ?a3 ?l3 ?c3 ?k3 ?a4 ?l4 ?c4 ?k4 ?a5 ?l5 ?c5 ?k5 ?a6 ?l6 ?c6 ?k6 ?a7 ?l7 ?c7 ?k7 ?a8 ?l8 ?c8 ?k8 ?a9 ?l9 ?c9 ?k9 ?a10 ?l10 ?c10 ?k10 ?a11 ?l11 ?c11 ?k11 ?a12 ?l12 ?c12 ?k12 ?a13 ?l13 ?c13 ?k13 ?hKP ?hC ?z_abs ?z_max ?z_sorted ?z_list ?z_range ?z_int ?z_isinstance ?z_bool ?z_tuple ?z_len ?z_set ?z_all
    (case a0 => k_is)
    (case l0 => k_is)
    (case c0 => k_is)
    (case k0 => k_is)
    (case a1 => k_is)
    (case l1 => k_is)
    (case c1 => k_is)
    (case k1 => k_is)
    (case a2 => k_is)
    (case l2 => k_is)
    (case c2 => k_is)
    (case k2 => k_is)
    (case a3 => k_is)
    (case l3 => k_is)
    (case c3 => k_is)
    (case k3 => k_is)
    (case a4 => k_is)
    (case l4 => k_is)
    (case c4 => k_is)
    (case k4 => k_is)
    (case a5 => k_is)
    (case l5 => k_is)
    (case c5 => k_is)
    (case k5 => k_is)
    (case a6 => k_is)
    (case l6 => k_is)
    (case c6 => k_is)
    (case k6 => k_is)
    (case a7 => k_is)
    (case l7 => k_is)
    (case c7 => k_is)
    (case k7 => k_is)
    (case a8 => k_is)
    (case l8 => k_is)
    (case c8 => k_is)
    (case k8 => k_is)
    (case a9 => k_is)
    (case l9 => k_is)
    (case c9 => k_is)
    (case k9 => k_is)
    (case a10 => k_is)
    (case l10 => k_is)
    (case c10 => k_is)
    (case k10 => k_is)
    (case a11 => k_is)
    (case l11 => k_is)
    (case c11 => k_is)
    (case k11 => k_is)
    (case a12 => k_is)
    (case l12 => k_is)
    (case c12 => k_is)
    (case k12 => k_is)
    (case a13 => k_is)
    (case l13 => k_is)
    (case c13 => k_is)
    (case k13 => k_is)
    (case hKP => kernel_rfl)
    (case hC => kernel_rfl)
    (case z_abs => k_is)
    (case z_max => k_is)
    (case z_sorted => k_is)
    (case z_list => k_is)
    (case z_range => k_is)
    (case z_int => k_is)
    (case z_isinstance => k_is)
    (case z_bool => k_is)
    (case z_tuple => k_is)
    (case z_len => k_is)
    (case z_set => k_is)
    (case z_all => k_is)

